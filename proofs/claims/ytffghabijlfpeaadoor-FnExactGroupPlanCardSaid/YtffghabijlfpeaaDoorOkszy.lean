/- That the data is what the program says, function by function. No conditions. -/
import Derived.Test.YtffghabijlfpeaaDoorIrzy
import Derived.Test.YtffghabijlfpeaaDoorLgD
import Derived.Test.YtffghabijlfpeaaDoorRows
set_option linter.unusedSectionVars false
set_option linter.unusedVariables false
set_option linter.unusedSimpArgs false
namespace Go.Proofs.YtffghabijlfpeaaDoor.oks
open Go.Lg Zz
def growRen:Go.Shelf.Ren:=⟨fun x=>if x=4 then 79 else x,fun x=>if x=0 then 0 else if x=3 then 3 else if x=4 then 4 else if x=9 then 9 else if x=20 then 20 else if x=22 then 26 else if x=25 then 62 else x,fun x=>x⟩
theorem growLays:Lays8.n4 Tryd.prog growRen:={ mixed:=by kernel_rfl,f4:=⟨_,by decide,Tryd.func79⟩,t0:=Tryd.underlying0,a0:=Tryd.isAgg0,z0:=Tryd.sizeOf0,v0:=Tryd.zeroValue0,t3:=Tryd.underlying3,a3:=Tryd.isAgg3,z3:=Tryd.sizeOf3,v3:=Tryd.zeroValue3,t4:=Tryd.underlying4,a4:=Tryd.isAgg4,z4:=Tryd.sizeOf4,v4:=Tryd.zeroValue4,t9:=Tryd.underlying9,a9:=Tryd.isAgg9,z9:=Tryd.sizeOf9,v9:=Tryd.zeroValue9,t20:=Tryd.underlying20,a20:=Tryd.isAgg20,z20:=Tryd.sizeOf20,v20:=Tryd.zeroValue20,t22:=Tryd.underlying26,a22:=Tryd.isAgg26,z22:=Tryd.sizeOf26,v22:=Tryd.zeroValue26 }
theorem growInfo:(Tryd.prog.info? (growRen.t 25)).map (fun i=>(i.zero,i.size,i.bytes))=some (some (Go.Value.agg #[.int .i64 0,.int .i64 0,.int .i64 0]),3,24):=by kernel_rfl
def insRen:Go.Shelf.Ren:=⟨fun x=>if x=21 then 82 else if x=27 then 85 else if x=28 then 86 else if x=35 then 87 else if x=39 then 88 else x,fun x=>if x=0 then 0 else if x=3 then 3 else if x=4 then 4 else if x=22 then 39 else x,fun x=>x⟩
theorem insLays:Lays2.n21 Tryd.prog insRen:={ mixed:=by kernel_rfl,f21:=by kernel_rfl,f27:=by kernel_rfl,f28:=by kernel_rfl,f35:=by kernel_rfl,f39:=by kernel_rfl,t0:=Tryd.underlying0,a0:=Tryd.isAgg0,z0:=Tryd.sizeOf0,v0:=Tryd.zeroValue0,t3:=Tryd.underlying3,a3:=Tryd.isAgg3,z3:=Tryd.sizeOf3,v3:=Tryd.zeroValue3,t4:=Tryd.underlying4,a4:=Tryd.isAgg4,z4:=Tryd.sizeOf4,v4:=Tryd.zeroValue4,t22:=Tryd.underlying39,a22:=Tryd.isAgg39,z22:=Tryd.sizeOf39,v22:=Tryd.zeroValue39,i3:=by kernel_rfl }
def askRen:Go.Shelf.Ren:=⟨fun x=>if x=22 then 57 else if x=29 then 69 else if x=17 then 70 else if x=30 then 70 else x,fun x=>if x=0 then 0 else if x=3 then 3 else if x=4 then 4 else if x=24 then 48 else if x=9 then 73 else x,fun x=>x⟩
theorem askLays:InsAt Tryd.prog askRen (Go.Value.agg #[.int .i64 0,.int .i64 0,.slice none 0 0,.int .i64 0]) 4 48:={ mixed:=by kernel_rfl,body:=⟨(Tryd.f57).name,by kernel_rfl,by kernel_rfl⟩,apart:=fun args w=>Go.run_callFunc_extern (fn:=Tryd.f69) Tryd.func69 (by kernel_rfl) (by kernel_rfl) (by kernel_rfl) (by kernel_rfl) args w,t0:=Tryd.underlying0,a0:=Tryd.isAgg0,z0:=Tryd.sizeOf0,v0:=Tryd.zeroValue0,t3:=Tryd.underlying3,a3:=Tryd.isAgg3,z3:=Tryd.sizeOf3,v3:=Tryd.zeroValue3,t4:=Tryd.underlying4,a4:=Tryd.isAgg4,z4:=Tryd.sizeOf4,v4:=Tryd.zeroValue4,t24:=Tryd.underlying48,a24:=Tryd.isAgg48,z24:=Tryd.sizeOf48,v24:=Tryd.zeroValue48,i9:=by kernel_rfl,zc:=by kernel_rfl,pos:=by decide,small:=by decide }
theorem ok3:OkF Tryd.prog (dcOf Tryd.prog) 3 Zz.F_laws_FnExactGroupPlan:=Or.inl ⟨rfl,⟨⟨Tryd.f3,_,Tryd.func3,rfl,by kernel_rfl,by kernel_rfl,by kernel_rfl,by decide +kernel,by kernel_rfl⟩⟩⟩
theorem ok4:OkF Tryd.prog (dcOf Tryd.prog) 4 Zz.F_laws_szTestS:=Or.inl ⟨rfl,⟨⟨Tryd.f4,_,Tryd.func4,rfl,by kernel_rfl,by kernel_rfl,by kernel_rfl,by decide +kernel,by kernel_rfl⟩⟩⟩
theorem ok5:OkF Tryd.prog (dcOf Tryd.prog) 5 Zz.F_laws_szIntSS:=Or.inl ⟨rfl,⟨⟨Tryd.f5,_,Tryd.func5,rfl,by kernel_rfl,by kernel_rfl,by kernel_rfl,by decide +kernel,by kernel_rfl⟩⟩⟩
theorem ok6:OkF Tryd.prog (dcOf Tryd.prog) 6 Zz.F_spec_GroupPlan:=Or.inl ⟨rfl,⟨⟨Tryd.f6,_,Tryd.func6,rfl,by kernel_rfl,by kernel_rfl,by kernel_rfl,by decide +kernel,by kernel_rfl⟩⟩⟩
theorem ok7:OkF Tryd.prog (dcOf Tryd.prog) 7 Zz.F_laws_toTestS:=Or.inl ⟨rfl,⟨⟨Tryd.f7,_,Tryd.func7,rfl,by kernel_rfl,by kernel_rfl,by kernel_rfl,by decide +kernel,by kernel_rfl⟩⟩⟩
theorem ok8:OkF Tryd.prog (dcOf Tryd.prog) 8 Zz.F_laws_toIntSS:=Or.inl ⟨rfl,⟨⟨Tryd.f8,_,Tryd.func8,rfl,by kernel_rfl,by kernel_rfl,by kernel_rfl,by decide +kernel,by kernel_rfl⟩⟩⟩
theorem ok9:OkF Tryd.prog (dcOf Tryd.prog) 9 Zz.F_impl_GroupPlan:=Or.inl ⟨rfl,⟨⟨Tryd.f9,_,Tryd.func9,rfl,by kernel_rfl,by kernel_rfl,by kernel_rfl,by decide +kernel,by kernel_rfl⟩⟩⟩
theorem ok10:OkF Tryd.prog (dcOf Tryd.prog) 10 Zz.F_laws_eqChoiceS:=Or.inl ⟨rfl,⟨⟨Tryd.f10,_,Tryd.func10,rfl,by kernel_rfl,by kernel_rfl,by kernel_rfl,by decide +kernel,by kernel_rfl⟩⟩⟩
theorem ok11:OkF Tryd.prog (dcOf Tryd.prog) 11 Zz.F_laws_eqTestS:=Or.inl ⟨rfl,⟨⟨Tryd.f11,_,Tryd.func11,rfl,by kernel_rfl,by kernel_rfl,by kernel_rfl,by decide +kernel,by kernel_rfl⟩⟩⟩
theorem ok12:OkF Tryd.prog (dcOf Tryd.prog) 12 Zz.F_laws_eqIntSS:=Or.inl ⟨rfl,⟨⟨Tryd.f12,_,Tryd.func12,rfl,by kernel_rfl,by kernel_rfl,by kernel_rfl,by decide +kernel,by kernel_rfl⟩⟩⟩
theorem ok13:OkF Tryd.prog (dcOf Tryd.prog) 13 Zz.F_laws_markTestS:=Or.inl ⟨rfl,⟨⟨Tryd.f13,_,Tryd.func13,rfl,by kernel_rfl,by kernel_rfl,by kernel_rfl,by decide +kernel,by kernel_rfl⟩⟩⟩
theorem ok14:OkF Tryd.prog (dcOf Tryd.prog) 14 Zz.F_laws_markIntSS:=Or.inl ⟨rfl,⟨⟨Tryd.f14,_,Tryd.func14,rfl,by kernel_rfl,by kernel_rfl,by kernel_rfl,by decide +kernel,by kernel_rfl⟩⟩⟩
theorem ok15:OkF Tryd.prog (dcOf Tryd.prog) 15 Zz.F_laws_markChoiceS:=Or.inl ⟨rfl,⟨⟨Tryd.f15,_,Tryd.func15,rfl,by kernel_rfl,by kernel_rfl,by kernel_rfl,by decide +kernel,by kernel_rfl⟩⟩⟩
theorem ok16:OkF Tryd.prog (dcOf Tryd.prog) 16 Zz.F_laws_heldChoiceS:=Or.inl ⟨rfl,⟨⟨Tryd.f16,_,Tryd.func16,rfl,by kernel_rfl,by kernel_rfl,by kernel_rfl,by decide +kernel,by kernel_rfl⟩⟩⟩
theorem ok17:OkF Tryd.prog (dcOf Tryd.prog) 17 Zz.F_laws_szIntS:=Or.inl ⟨rfl,⟨⟨Tryd.f17,_,Tryd.func17,rfl,by kernel_rfl,by kernel_rfl,by kernel_rfl,by decide +kernel,by kernel_rfl⟩⟩⟩
theorem ok18:OkF Tryd.prog (dcOf Tryd.prog) 18 Zz.F_spec_SortedGroups:=Or.inl ⟨rfl,⟨⟨Tryd.f18,_,Tryd.func18,rfl,by kernel_rfl,by kernel_rfl,by kernel_rfl,by decide +kernel,by kernel_rfl⟩⟩⟩
theorem ok19:OkF Tryd.prog (dcOf Tryd.prog) 19 Zz.F_spec_l7Grow:=Or.inl ⟨rfl,⟨⟨Tryd.f19,_,Tryd.func19,rfl,by kernel_rfl,by kernel_rfl,by kernel_rfl,by decide +kernel,by kernel_rfl⟩⟩⟩
theorem ok20:OkF Tryd.prog (dcOf Tryd.prog) 20 Zz.F_laws_toTest:=Or.inl ⟨rfl,⟨⟨Tryd.f20,_,Tryd.func20,rfl,by kernel_rfl,by kernel_rfl,by kernel_rfl,by decide +kernel,by kernel_rfl⟩⟩⟩
theorem ok21:OkF Tryd.prog (dcOf Tryd.prog) 21 Zz.F_laws_toIntS:=Or.inl ⟨rfl,⟨⟨Tryd.f21,_,Tryd.func21,rfl,by kernel_rfl,by kernel_rfl,by kernel_rfl,by decide +kernel,by kernel_rfl⟩⟩⟩
theorem ok22:OkF Tryd.prog (dcOf Tryd.prog) 22 Zz.F_impl_groupsByRatios:=Or.inl ⟨rfl,⟨⟨Tryd.f22,_,Tryd.func22,rfl,by kernel_rfl,by kernel_rfl,by kernel_rfl,by decide +kernel,by kernel_rfl⟩⟩⟩
theorem ok23:OkF Tryd.prog (dcOf Tryd.prog) 23 Zz.F_impl_planFrom:=Or.inl ⟨rfl,⟨⟨Tryd.f23,_,Tryd.func23,rfl,by kernel_rfl,by kernel_rfl,by kernel_rfl,by decide +kernel,by kernel_rfl⟩⟩⟩
theorem ok24:OkF Tryd.prog (dcOf Tryd.prog) 24 Zz.F_impl_startOf:=Or.inl ⟨rfl,⟨⟨Tryd.f24,_,Tryd.func24,rfl,by kernel_rfl,by kernel_rfl,by kernel_rfl,by decide +kernel,by kernel_rfl⟩⟩⟩
theorem ok25:OkF Tryd.prog (dcOf Tryd.prog) 25 Zz.F_impl_GroupTerm:=Or.inl ⟨rfl,⟨⟨Tryd.f25,_,Tryd.func25,rfl,by kernel_rfl,by kernel_rfl,by kernel_rfl,by decide +kernel,by kernel_rfl⟩⟩⟩
theorem ok26:OkF Tryd.prog (dcOf Tryd.prog) 26 Zz.F_impl_GroupPlan_1:=Or.inl ⟨rfl,⟨⟨Tryd.f26,_,Tryd.func26,rfl,by kernel_rfl,by kernel_rfl,by kernel_rfl,by decide +kernel,by kernel_rfl⟩⟩⟩
theorem ok27:OkF Tryd.prog (dcOf Tryd.prog) 27 Zz.F_impl_nextInGroups:=Or.inl ⟨rfl,⟨⟨Tryd.f27,_,Tryd.func27,rfl,by kernel_rfl,by kernel_rfl,by kernel_rfl,by decide +kernel,by kernel_rfl⟩⟩⟩
theorem ok28:OkF Tryd.prog (dcOf Tryd.prog) 28 Zz.F_laws_eqChoice:=Or.inl ⟨rfl,⟨⟨Tryd.f28,_,Tryd.func28,rfl,by kernel_rfl,by kernel_rfl,by kernel_rfl,by decide +kernel,by kernel_rfl⟩⟩⟩
theorem ok29:OkF Tryd.prog (dcOf Tryd.prog) 29 Zz.F_laws_eqTest:=Or.inl ⟨rfl,⟨⟨Tryd.f29,_,Tryd.func29,rfl,by kernel_rfl,by kernel_rfl,by kernel_rfl,by decide +kernel,by kernel_rfl⟩⟩⟩
theorem ok30:OkF Tryd.prog (dcOf Tryd.prog) 30 Zz.F_laws_eqIntS:=Or.inl ⟨rfl,⟨⟨Tryd.f30,_,Tryd.func30,rfl,by kernel_rfl,by kernel_rfl,by kernel_rfl,by decide +kernel,by kernel_rfl⟩⟩⟩
theorem ok31:OkF Tryd.prog (dcOf Tryd.prog) 31 Zz.F_laws_markIntS:=Or.inl ⟨rfl,⟨⟨Tryd.f31,_,Tryd.func31,rfl,by kernel_rfl,by kernel_rfl,by kernel_rfl,by decide +kernel,by kernel_rfl⟩⟩⟩
theorem ok32:OkF Tryd.prog (dcOf Tryd.prog) 32 Zz.F_spec_TestsOk:=Or.inl ⟨rfl,⟨⟨Tryd.f32,_,Tryd.func32,rfl,by kernel_rfl,by kernel_rfl,by kernel_rfl,by decide +kernel,by kernel_rfl⟩⟩⟩
theorem ok33:OkF Tryd.prog (dcOf Tryd.prog) 33 Zz.F_spec_GroupsOk:=Or.inl ⟨rfl,⟨⟨Tryd.f33,_,Tryd.func33,rfl,by kernel_rfl,by kernel_rfl,by kernel_rfl,by decide +kernel,by kernel_rfl⟩⟩⟩
theorem ok34:OkF Tryd.prog (dcOf Tryd.prog) 34 Zz.F_spec_l7Inside:=Or.inl ⟨rfl,⟨⟨Tryd.f34,_,Tryd.func34,rfl,by kernel_rfl,by kernel_rfl,by kernel_rfl,by decide +kernel,by kernel_rfl⟩⟩⟩
theorem ok35:OkF Tryd.prog (dcOf Tryd.prog) 35 Zz.F_spec_l7Cost:=Or.inl ⟨rfl,⟨⟨Tryd.f35,_,Tryd.func35,rfl,by kernel_rfl,by kernel_rfl,by kernel_rfl,by decide +kernel,by kernel_rfl⟩⟩⟩
theorem ok36:OkF Tryd.prog (dcOf Tryd.prog) 36 Zz.F_impl_TestsOk:=Or.inl ⟨rfl,⟨⟨Tryd.f36,_,Tryd.func36,rfl,by kernel_rfl,by kernel_rfl,by kernel_rfl,by decide +kernel,by kernel_rfl⟩⟩⟩
theorem ok37:OkF Tryd.prog (dcOf Tryd.prog) 37 Zz.F_impl_GroupsOk:=Or.inl ⟨rfl,⟨⟨Tryd.f37,_,Tryd.func37,rfl,by kernel_rfl,by kernel_rfl,by kernel_rfl,by decide +kernel,by kernel_rfl⟩⟩⟩
theorem ok38:OkF Tryd.prog (dcOf Tryd.prog) 38 Zz.F_impl_groupsByRatios_1:=Or.inl ⟨rfl,⟨⟨Tryd.f38,_,Tryd.func38,rfl,by kernel_rfl,by kernel_rfl,by kernel_rfl,by decide +kernel,by kernel_rfl⟩⟩⟩
theorem ok39:OkF Tryd.prog (dcOf Tryd.prog) 39 Zz.F_impl_ratio_isLess:=Or.inl ⟨rfl,⟨⟨Tryd.f39,_,Tryd.func39,rfl,by kernel_rfl,by kernel_rfl,by kernel_rfl,by decide +kernel,by kernel_rfl⟩⟩⟩
theorem ok40:OkF Tryd.prog (dcOf Tryd.prog) 40 Zz.F_impl_inserted_impl_askedGroup:=Or.inl ⟨rfl,⟨⟨Tryd.f40,_,Tryd.func40,rfl,by kernel_rfl,by kernel_rfl,by kernel_rfl,by decide +kernel,by kernel_rfl⟩⟩⟩
theorem ok41:OkF Tryd.prog (dcOf Tryd.prog) 41 Zz.F_impl_groupOf:=Or.inl ⟨rfl,⟨⟨Tryd.f41,_,Tryd.func41,rfl,by kernel_rfl,by kernel_rfl,by kernel_rfl,by decide +kernel,by kernel_rfl⟩⟩⟩
theorem ok42:OkF Tryd.prog (dcOf Tryd.prog) 42 Zz.F_impl_point_isForced:=Or.inl ⟨rfl,⟨⟨Tryd.f42,_,Tryd.func42,rfl,by kernel_rfl,by kernel_rfl,by kernel_rfl,by decide +kernel,by kernel_rfl⟩⟩⟩
theorem ok43:OkF Tryd.prog (dcOf Tryd.prog) 43 Zz.F_impl_point_answered:=Or.inl ⟨rfl,⟨⟨Tryd.f43,_,Tryd.func43,rfl,by kernel_rfl,by kernel_rfl,by kernel_rfl,by decide +kernel,by kernel_rfl⟩⟩⟩
theorem ok44:OkF Tryd.prog (dcOf Tryd.prog) 44 Zz.F_impl_laidOut:=Or.inl ⟨rfl,⟨⟨Tryd.f44,_,Tryd.func44,rfl,by kernel_rfl,by kernel_rfl,by kernel_rfl,by decide +kernel,by kernel_rfl⟩⟩⟩
theorem ok45:OkF Tryd.prog (dcOf Tryd.prog) 45 Zz.F_impl_trueStates:=Or.inl ⟨rfl,⟨⟨Tryd.f45,_,Tryd.func45,rfl,by kernel_rfl,by kernel_rfl,by kernel_rfl,by decide +kernel,by kernel_rfl⟩⟩⟩
theorem ok46:OkF Tryd.prog (dcOf Tryd.prog) 46 Zz.F_slices_IndexFunc_impl_askedGroup_impl_askedGroup:=Or.inl ⟨rfl,⟨⟨Tryd.f46,_,Tryd.func46,rfl,by kernel_rfl,by kernel_rfl,by kernel_rfl,by decide +kernel,by kernel_rfl⟩⟩⟩
theorem ok47:OkF Tryd.prog (dcOf Tryd.prog) 47 Zz.F_impl_nextInGroups_1:=Or.inl ⟨rfl,⟨⟨Tryd.f47,_,Tryd.func47,rfl,by kernel_rfl,by kernel_rfl,by kernel_rfl,by decide +kernel,by kernel_rfl⟩⟩⟩
theorem ok48:OkF Tryd.prog (dcOf Tryd.prog) 48 Zz.F_impl_valueAmong:=Or.inl ⟨rfl,⟨⟨Tryd.f48,_,Tryd.func48,rfl,by kernel_rfl,by kernel_rfl,by kernel_rfl,by decide +kernel,by kernel_rfl⟩⟩⟩
theorem ok49:OkF Tryd.prog (dcOf Tryd.prog) 49 Zz.F_impl_statesWithYes:=Or.inl ⟨rfl,⟨⟨Tryd.f49,_,Tryd.func49,rfl,by kernel_rfl,by kernel_rfl,by kernel_rfl,by decide +kernel,by kernel_rfl⟩⟩⟩
theorem ok50:OkF Tryd.prog (dcOf Tryd.prog) 50 Zz.F_slices_IndexFunc_int_int:=Or.inl ⟨rfl,⟨⟨Tryd.f50,_,Tryd.func50,rfl,by kernel_rfl,by kernel_rfl,by kernel_rfl,by decide +kernel,by kernel_rfl⟩⟩⟩
theorem ok51:OkF Tryd.prog (dcOf Tryd.prog) 51 Zz.F_impl_point_canAsk:=Or.inl ⟨rfl,⟨⟨Tryd.f51,_,Tryd.func51,rfl,by kernel_rfl,by kernel_rfl,by kernel_rfl,by decide +kernel,by kernel_rfl⟩⟩⟩
theorem ok52:OkF Tryd.prog (dcOf Tryd.prog) 52 Zz.F_spec_l1In:=Or.inl ⟨rfl,⟨⟨Tryd.f52,_,Tryd.func52,rfl,by kernel_rfl,by kernel_rfl,by kernel_rfl,by decide +kernel,by kernel_rfl⟩⟩⟩
theorem ok53:OkF Tryd.prog (dcOf Tryd.prog) 53 Zz.F_spec_l1Power:=Or.inl ⟨rfl,⟨⟨Tryd.f53,_,Tryd.func53,rfl,by kernel_rfl,by kernel_rfl,by kernel_rfl,by decide +kernel,by kernel_rfl⟩⟩⟩
theorem ok54:OkF Tryd.prog (dcOf Tryd.prog) 54 Zz.F_impl_manyOk:=Or.inl ⟨rfl,⟨⟨Tryd.f54,_,Tryd.func54,rfl,by kernel_rfl,by kernel_rfl,by kernel_rfl,by decide +kernel,by kernel_rfl⟩⟩⟩
theorem ok55:OkF Tryd.prog (dcOf Tryd.prog) 55 Zz.F_impl_isWithin:=Or.inl ⟨rfl,⟨⟨Tryd.f55,_,Tryd.func55,rfl,by kernel_rfl,by kernel_rfl,by kernel_rfl,by decide +kernel,by kernel_rfl⟩⟩⟩
theorem ok56:OkF Tryd.prog (dcOf Tryd.prog) 56 Zz.F_impl_OrderOk:=Or.inl ⟨rfl,⟨⟨Tryd.f56,_,Tryd.func56,rfl,by kernel_rfl,by kernel_rfl,by kernel_rfl,by decide +kernel,by kernel_rfl⟩⟩⟩
set_option maxRecDepth 100000 in
theorem ok57:OkF Tryd.prog (dcOf Tryd.prog) 57 Zz.F_slices_Insert_impl_askedGroup_impl_askedGroup:=Or.inr ⟨(insPS 4),rfl,insS_sound askLays (by decide) (by kernel_rfl)⟩
theorem ok58:OkF Tryd.prog (dcOf Tryd.prog) 58 Zz.F_impl_RatioOrder:=Or.inl ⟨rfl,⟨⟨Tryd.f58,_,Tryd.func58,rfl,by kernel_rfl,by kernel_rfl,by kernel_rfl,by decide +kernel,by kernel_rfl⟩⟩⟩
theorem ok59:OkF Tryd.prog (dcOf Tryd.prog) 59 Zz.F_slices_Contains_int_int:=Or.inl ⟨rfl,⟨⟨Tryd.f59,_,Tryd.func59,rfl,by kernel_rfl,by kernel_rfl,by kernel_rfl,by decide +kernel,by kernel_rfl⟩⟩⟩
theorem ok60:OkF Tryd.prog (dcOf Tryd.prog) 60 Zz.F_impl_RowAverage:=Or.inl ⟨rfl,⟨⟨Tryd.f60,_,Tryd.func60,rfl,by kernel_rfl,by kernel_rfl,by kernel_rfl,by decide +kernel,by kernel_rfl⟩⟩⟩
theorem ok61:OkF Tryd.prog (dcOf Tryd.prog) 61 Zz.F_impl_WeightOf:=Or.inl ⟨rfl,⟨⟨Tryd.f61,_,Tryd.func61,rfl,by kernel_rfl,by kernel_rfl,by kernel_rfl,by decide +kernel,by kernel_rfl⟩⟩⟩
theorem ok62:OkF Tryd.prog (dcOf Tryd.prog) 62 Zz.F_impl_wholeOf:=Or.inl ⟨rfl,⟨⟨Tryd.f62,_,Tryd.func62,rfl,by kernel_rfl,by kernel_rfl,by kernel_rfl,by decide +kernel,by kernel_rfl⟩⟩⟩
theorem ok63:OkF Tryd.prog (dcOf Tryd.prog) 63 Zz.F_impl_point_value:=Or.inl ⟨rfl,⟨⟨Tryd.f63,_,Tryd.func63,rfl,by kernel_rfl,by kernel_rfl,by kernel_rfl,by decide +kernel,by kernel_rfl⟩⟩⟩
theorem ok64:OkF Tryd.prog (dcOf Tryd.prog) 64 Zz.F_impl_statesSaying:=Or.inl ⟨rfl,⟨⟨Tryd.f64,_,Tryd.func64,rfl,by kernel_rfl,by kernel_rfl,by kernel_rfl,by decide +kernel,by kernel_rfl⟩⟩⟩
theorem ok65:OkF Tryd.prog (dcOf Tryd.prog) 65 Zz.F_slices_Concat_impl_Choice_impl_Choice:=Or.inl ⟨rfl,⟨⟨Tryd.f65,_,Tryd.func65,rfl,by kernel_rfl,by kernel_rfl,by kernel_rfl,by decide +kernel,by kernel_rfl⟩⟩⟩
theorem ok66:OkF Tryd.prog (dcOf Tryd.prog) 66 Zz.F_impl_foldTerm_uint32:=Or.inl ⟨rfl,⟨⟨Tryd.f66,_,Tryd.func66,rfl,by kernel_rfl,by kernel_rfl,by kernel_rfl,by decide +kernel,by kernel_rfl⟩⟩⟩
theorem ok67:OkF Tryd.prog (dcOf Tryd.prog) 67 Zz.F_impl_statesOfPart:=Or.inl ⟨rfl,⟨⟨Tryd.f67,_,Tryd.func67,rfl,by kernel_rfl,by kernel_rfl,by kernel_rfl,by decide +kernel,by kernel_rfl⟩⟩⟩
theorem ok68:OkF Tryd.prog (dcOf Tryd.prog) 68 Zz.F_impl_hasTest:=Or.inl ⟨rfl,⟨⟨Tryd.f68,_,Tryd.func68,rfl,by kernel_rfl,by kernel_rfl,by kernel_rfl,by decide +kernel,by kernel_rfl⟩⟩⟩
theorem ok70:OkF Tryd.prog (dcOf Tryd.prog) 70 Zz.F_slices_rotateRight_impl_askedGroup:=Or.inl ⟨rfl,⟨⟨Tryd.f70,_,Tryd.func70,rfl,by kernel_rfl,by kernel_rfl,by kernel_rfl,by decide +kernel,by kernel_rfl⟩⟩⟩
theorem ok71:OkF Tryd.prog (dcOf Tryd.prog) 71 Zz.F_impl_rowOk:=Or.inl ⟨rfl,⟨⟨Tryd.f71,_,Tryd.func71,rfl,by kernel_rfl,by kernel_rfl,by kernel_rfl,by decide +kernel,by kernel_rfl⟩⟩⟩
theorem ok72:OkF Tryd.prog (dcOf Tryd.prog) 72 Zz.F_impl_RatioOrder_1:=Or.inl ⟨rfl,⟨⟨Tryd.f72,_,Tryd.func72,rfl,by kernel_rfl,by kernel_rfl,by kernel_rfl,by decide +kernel,by kernel_rfl⟩⟩⟩
theorem ok73:OkF Tryd.prog (dcOf Tryd.prog) 73 Zz.F_impl_ratioOf:=Or.inl ⟨rfl,⟨⟨Tryd.f73,_,Tryd.func73,rfl,by kernel_rfl,by kernel_rfl,by kernel_rfl,by decide +kernel,by kernel_rfl⟩⟩⟩
theorem ok74:OkF Tryd.prog (dcOf Tryd.prog) 74 Zz.F_impl_inserted_int:=Or.inl ⟨rfl,⟨⟨Tryd.f74,_,Tryd.func74,rfl,by kernel_rfl,by kernel_rfl,by kernel_rfl,by decide +kernel,by kernel_rfl⟩⟩⟩
theorem ok75:OkF Tryd.prog (dcOf Tryd.prog) 75 Zz.F_slices_Index_int_int:=Or.inl ⟨rfl,⟨⟨Tryd.f75,_,Tryd.func75,rfl,by kernel_rfl,by kernel_rfl,by kernel_rfl,by decide +kernel,by kernel_rfl⟩⟩⟩
theorem ok76:OkF Tryd.prog (dcOf Tryd.prog) 76 Zz.F_impl_endChance:=Or.inl ⟨rfl,⟨⟨Tryd.f76,_,Tryd.func76,rfl,by kernel_rfl,by kernel_rfl,by kernel_rfl,by decide +kernel,by kernel_rfl⟩⟩⟩
theorem ok77:OkF Tryd.prog (dcOf Tryd.prog) 77 Zz.F_impl_StateOk:=Or.inl ⟨rfl,⟨⟨Tryd.f77,_,Tryd.func77,rfl,by kernel_rfl,by kernel_rfl,by kernel_rfl,by decide +kernel,by kernel_rfl⟩⟩⟩
theorem ok78:OkF Tryd.prog (dcOf Tryd.prog) 78 Zz.F_impl_outcomeIn:=Or.inl ⟨rfl,⟨⟨Tryd.f78,_,Tryd.func78,rfl,by kernel_rfl,by kernel_rfl,by kernel_rfl,by decide +kernel,by kernel_rfl⟩⟩⟩
set_option maxRecDepth 100000 in
theorem ok79:OkF Tryd.prog (dcOf Tryd.prog) 79 Zz.F_slices_Grow_impl_Choice_impl_Choice:=Or.inr ⟨(growP 3),rfl,grow_sound growLays (by kernel_rfl) growInfo rfl (by decide) (by decide) (by decide)⟩
theorem ok80:OkF Tryd.prog (dcOf Tryd.prog) 80 Zz.F_impl_partsTaken:=Or.inl ⟨rfl,⟨⟨Tryd.f80,_,Tryd.func80,rfl,by kernel_rfl,by kernel_rfl,by kernel_rfl,by decide +kernel,by kernel_rfl⟩⟩⟩
theorem ok81:OkF Tryd.prog (dcOf Tryd.prog) 81 Zz.F_slices_rotateLeft_impl_askedGroup:=Or.inl ⟨rfl,⟨⟨Tryd.f81,_,Tryd.func81,rfl,by kernel_rfl,by kernel_rfl,by kernel_rfl,by decide +kernel,by kernel_rfl⟩⟩⟩
set_option maxRecDepth 100000 in
theorem ok82:OkF Tryd.prog (dcOf Tryd.prog) 82 Zz.F_slices_Insert_int_int:=Or.inr ⟨insP,rfl,ins_sound insLays (by kernel_rfl)⟩
theorem ok83:OkF Tryd.prog (dcOf Tryd.prog) 83 Zz.F_impl_statesOf:=Or.inl ⟨rfl,⟨⟨Tryd.f83,_,Tryd.func83,rfl,by kernel_rfl,by kernel_rfl,by kernel_rfl,by decide +kernel,by kernel_rfl⟩⟩⟩
theorem ok84:OkF Tryd.prog (dcOf Tryd.prog) 84 Zz.F_slices_Reverse_impl_askedGroup_impl_askedGroup:=Or.inl ⟨rfl,⟨⟨Tryd.f84,_,Tryd.func84,rfl,by kernel_rfl,by kernel_rfl,by kernel_rfl,by decide +kernel,by kernel_rfl⟩⟩⟩
theorem ok86:OkF Tryd.prog (dcOf Tryd.prog) 86 Zz.F_slices_rotateRight_int:=Or.inl ⟨rfl,⟨⟨Tryd.f86,_,Tryd.func86,rfl,by kernel_rfl,by kernel_rfl,by kernel_rfl,by decide +kernel,by kernel_rfl⟩⟩⟩
theorem ok87:OkF Tryd.prog (dcOf Tryd.prog) 87 Zz.F_slices_rotateLeft_int:=Or.inl ⟨rfl,⟨⟨Tryd.f87,_,Tryd.func87,rfl,by kernel_rfl,by kernel_rfl,by kernel_rfl,by decide +kernel,by kernel_rfl⟩⟩⟩
theorem ok88:OkF Tryd.prog (dcOf Tryd.prog) 88 Zz.F_slices_Reverse_int_int:=Or.inl ⟨rfl,⟨⟨Tryd.f88,_,Tryd.func88,rfl,by kernel_rfl,by kernel_rfl,by kernel_rfl,by decide +kernel,by kernel_rfl⟩⟩⟩
theorem mixed:Tryd.prog.follows .mixedOrders=true:=by kernel_rfl
theorem okAll:∀ f F,Zz.lf f=some F→OkF Tryd.prog (dcOf Tryd.prog) f F:=by
 intro f F h
 unfold Zz.lf at h
 split at h
 ·injection h with h; subst h; exact ok3
 ·injection h with h; subst h; exact ok4
 ·injection h with h; subst h; exact ok5
 ·injection h with h; subst h; exact ok6
 ·injection h with h; subst h; exact ok7
 ·injection h with h; subst h; exact ok8
 ·injection h with h; subst h; exact ok9
 ·injection h with h; subst h; exact ok10
 ·injection h with h; subst h; exact ok11
 ·injection h with h; subst h; exact ok12
 ·injection h with h; subst h; exact ok13
 ·injection h with h; subst h; exact ok14
 ·injection h with h; subst h; exact ok15
 ·injection h with h; subst h; exact ok16
 ·injection h with h; subst h; exact ok17
 ·injection h with h; subst h; exact ok18
 ·injection h with h; subst h; exact ok19
 ·injection h with h; subst h; exact ok20
 ·injection h with h; subst h; exact ok21
 ·injection h with h; subst h; exact ok22
 ·injection h with h; subst h; exact ok23
 ·injection h with h; subst h; exact ok24
 ·injection h with h; subst h; exact ok25
 ·injection h with h; subst h; exact ok26
 ·injection h with h; subst h; exact ok27
 ·injection h with h; subst h; exact ok28
 ·injection h with h; subst h; exact ok29
 ·injection h with h; subst h; exact ok30
 ·injection h with h; subst h; exact ok31
 ·injection h with h; subst h; exact ok32
 ·injection h with h; subst h; exact ok33
 ·injection h with h; subst h; exact ok34
 ·injection h with h; subst h; exact ok35
 ·injection h with h; subst h; exact ok36
 ·injection h with h; subst h; exact ok37
 ·injection h with h; subst h; exact ok38
 ·injection h with h; subst h; exact ok39
 ·injection h with h; subst h; exact ok40
 ·injection h with h; subst h; exact ok41
 ·injection h with h; subst h; exact ok42
 ·injection h with h; subst h; exact ok43
 ·injection h with h; subst h; exact ok44
 ·injection h with h; subst h; exact ok45
 ·injection h with h; subst h; exact ok46
 ·injection h with h; subst h; exact ok47
 ·injection h with h; subst h; exact ok48
 ·injection h with h; subst h; exact ok49
 ·injection h with h; subst h; exact ok50
 ·injection h with h; subst h; exact ok51
 ·injection h with h; subst h; exact ok52
 ·injection h with h; subst h; exact ok53
 ·injection h with h; subst h; exact ok54
 ·injection h with h; subst h; exact ok55
 ·injection h with h; subst h; exact ok56
 ·injection h with h; subst h; exact ok57
 ·injection h with h; subst h; exact ok58
 ·injection h with h; subst h; exact ok59
 ·injection h with h; subst h; exact ok60
 ·injection h with h; subst h; exact ok61
 ·injection h with h; subst h; exact ok62
 ·injection h with h; subst h; exact ok63
 ·injection h with h; subst h; exact ok64
 ·injection h with h; subst h; exact ok65
 ·injection h with h; subst h; exact ok66
 ·injection h with h; subst h; exact ok67
 ·injection h with h; subst h; exact ok68
 ·injection h with h; subst h; exact ok70
 ·injection h with h; subst h; exact ok71
 ·injection h with h; subst h; exact ok72
 ·injection h with h; subst h; exact ok73
 ·injection h with h; subst h; exact ok74
 ·injection h with h; subst h; exact ok75
 ·injection h with h; subst h; exact ok76
 ·injection h with h; subst h; exact ok77
 ·injection h with h; subst h; exact ok78
 ·injection h with h; subst h; exact ok79
 ·injection h with h; subst h; exact ok80
 ·injection h with h; subst h; exact ok81
 ·injection h with h; subst h; exact ok82
 ·injection h with h; subst h; exact ok83
 ·injection h with h; subst h; exact ok84
 ·injection h with h; subst h; exact ok86
 ·injection h with h; subst h; exact ok87
 ·injection h with h; subst h; exact ok88
 ·cases h
theorem backs:BackSound Tryd.prog:=back_none (by kernel_rfl)
theorem said {f:Nat} {args:List DV} {r:DV×List DV} (h:call Zz.lf f args=some r):CallSpec Tryd.prog f args r:=call_sound okAll (draw_ok mixed) backs h
end Go.Proofs.YtffghabijlfpeaaDoor.oks
