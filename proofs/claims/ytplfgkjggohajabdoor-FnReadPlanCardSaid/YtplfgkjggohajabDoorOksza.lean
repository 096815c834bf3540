/- That the data is what the program says, function by function. No conditions. -/
import Derived.Test.YtplfgkjggohajabDoorIrza
import Derived.Test.YtplfgkjggohajabDoorLgD
import Derived.Test.YtplfgkjggohajabDoorLgEza
import Derived.Test.YtplfgkjggohajabDoorRows
set_option linter.unusedSectionVars false
set_option linter.unusedVariables false
set_option linter.unusedSimpArgs false
namespace Go.Proofs.YtplfgkjggohajabDoor.oks
open Go.Lg Zz
def growRen : Go.Shelf.Ren := ⟨fun x => if x = 4 then 150 else x,fun x => if x = 0 then 0 else if x = 3 then 3 else if x = 4 then 4 else if x = 9 then 9 else if x = 20 then 20 else if x = 22 then 24 else if x = 25 then 97 else x,fun x => x⟩
theorem growLays : Lays8.n4 Tryd.prog growRen := { mixed := by kernel_rfl,f4 := ⟨_,by decide,Tryd.func150⟩,t0 := Tryd.underlying0,a0 := Tryd.isAgg0,z0 := Tryd.sizeOf0,v0 := Tryd.zeroValue0,t3 := Tryd.underlying3,a3 := Tryd.isAgg3,z3 := Tryd.sizeOf3,v3 := Tryd.zeroValue3,t4 := Tryd.underlying4,a4 := Tryd.isAgg4,z4 := Tryd.sizeOf4,v4 := Tryd.zeroValue4,t9 := Tryd.underlying9,a9 := Tryd.isAgg9,z9 := Tryd.sizeOf9,v9 := Tryd.zeroValue9,t20 := Tryd.underlying20,a20 := Tryd.isAgg20,z20 := Tryd.sizeOf20,v20 := Tryd.zeroValue20,t22 := Tryd.underlying24,a22 := Tryd.isAgg24,z22 := Tryd.sizeOf24,v22 := Tryd.zeroValue24 }
theorem growInfo : (Tryd.prog.info? (growRen.t 25)).map (fun i => (i.zero,i.size,i.bytes)) = some (some (Go.Value.agg #[.int .i64 0,.int .i64 0,.int .i64 0]),3,24) := by kernel_rfl
theorem ok4 : OkF Tryd.prog (dcOf Tryd.prog) 4 Zz.F_laws_FnReadPlan := Or.inl ⟨rfl,⟨⟨Tryd.f4,_,Tryd.func4,rfl,by kernel_rfl,by kernel_rfl,by kernel_rfl,by decide +kernel,by kernel_rfl⟩⟩⟩
theorem ok14 : OkF Tryd.prog (dcOf Tryd.prog) 14 Zz.F_impl_PlanText := Or.inl ⟨rfl,⟨⟨Tryd.f14,_,Tryd.func14,rfl,by kernel_rfl,by kernel_rfl,by kernel_rfl,by decide +kernel,by kernel_rfl⟩⟩⟩
theorem ok15 : OkF Tryd.prog (dcOf Tryd.prog) 15 Zz.F_spec_PlanText := Or.inl ⟨rfl,⟨⟨Tryd.f15,_,Tryd.func15,rfl,by kernel_rfl,by kernel_rfl,by kernel_rfl,by decide +kernel,by kernel_rfl⟩⟩⟩
theorem ok16 : OkF Tryd.prog (dcOf Tryd.prog) 16 Zz.F_impl_PlanOk := Or.inl ⟨rfl,⟨⟨Tryd.f16,_,Tryd.func16,rfl,by kernel_rfl,by kernel_rfl,by kernel_rfl,by decide +kernel,by kernel_rfl⟩⟩⟩
theorem ok17 : OkF Tryd.prog (dcOf Tryd.prog) 17 Zz.F_laws_alive := Or.inl ⟨rfl,⟨⟨Tryd.f17,_,Tryd.func17,rfl,by kernel_rfl,by kernel_rfl,by kernel_rfl,by decide +kernel,by kernel_rfl⟩⟩⟩
theorem ok18 : OkF Tryd.prog (dcOf Tryd.prog) 18 Zz.F_impl_ReadPlan := Or.inl ⟨rfl,⟨⟨Tryd.f18,_,Tryd.func18,rfl,by kernel_rfl,by kernel_rfl,by kernel_rfl,by decide +kernel,by kernel_rfl⟩⟩⟩
theorem ok20 : OkF Tryd.prog (dcOf Tryd.prog) 20 Zz.F_spec_DrawReadPlan := Or.inl ⟨rfl,⟨⟨Tryd.f20,_,Tryd.func20,rfl,by kernel_rfl,by kernel_rfl,by kernel_rfl,by decide +kernel,by kernel_rfl⟩⟩⟩
theorem ok21 : OkF Tryd.prog (dcOf Tryd.prog) 21 Zz.F_spec_ReadPlan := Or.inl ⟨rfl,⟨⟨Tryd.f21,_,Tryd.func21,rfl,by kernel_rfl,by kernel_rfl,by kernel_rfl,by decide +kernel,by kernel_rfl⟩⟩⟩
theorem ok22 : OkF Tryd.prog (dcOf Tryd.prog) 22 Zz.F_laws_samePlan := Or.inl ⟨rfl,⟨⟨Tryd.f22,_,Tryd.func22,rfl,by kernel_rfl,by kernel_rfl,by kernel_rfl,by decide +kernel,by kernel_rfl⟩⟩⟩
theorem ok28 : OkF Tryd.prog (dcOf Tryd.prog) 28 Zz.F_spec_TestsOk := Or.inl ⟨rfl,⟨⟨Tryd.f28,_,Tryd.func28,rfl,by kernel_rfl,by kernel_rfl,by kernel_rfl,by decide +kernel,by kernel_rfl⟩⟩⟩
theorem ok35 : OkF Tryd.prog (dcOf Tryd.prog) 35 Zz.F_spec_TermOk := Or.inl ⟨rfl,⟨⟨Tryd.f35,_,Tryd.func35,rfl,by kernel_rfl,by kernel_rfl,by kernel_rfl,by decide +kernel,by kernel_rfl⟩⟩⟩
theorem ok51 : OkF Tryd.prog (dcOf Tryd.prog) 51 Zz.F_spec_l20Planned := Or.inl ⟨rfl,⟨⟨Tryd.f51,_,Tryd.func51,rfl,by kernel_rfl,by kernel_rfl,by kernel_rfl,by decide +kernel,by kernel_rfl⟩⟩⟩
theorem ok52 : OkF Tryd.prog (dcOf Tryd.prog) 52 Zz.F_spec_l20Open := Or.inl ⟨rfl,⟨⟨Tryd.f52,_,Tryd.func52,rfl,by kernel_rfl,by kernel_rfl,by kernel_rfl,by decide +kernel,by kernel_rfl⟩⟩⟩
theorem ok53 : OkF Tryd.prog (dcOf Tryd.prog) 53 Zz.F_impl_foldPlan_string := Or.inl ⟨rfl,⟨⟨Tryd.f53,_,Tryd.func53,rfl,by kernel_rfl,by kernel_rfl,by kernel_rfl,by decide +kernel,by kernel_rfl⟩⟩⟩
theorem ok54 : OkF Tryd.prog (dcOf Tryd.prog) 54 Zz.F_impl_firstOf := Or.inl ⟨rfl,⟨⟨Tryd.f54,_,Tryd.func54,rfl,by kernel_rfl,by kernel_rfl,by kernel_rfl,by decide +kernel,by kernel_rfl⟩⟩⟩
theorem ok55 : OkF Tryd.prog (dcOf Tryd.prog) 55 Zz.F_impl_startOf := Or.inl ⟨rfl,⟨⟨Tryd.f55,_,Tryd.func55,rfl,by kernel_rfl,by kernel_rfl,by kernel_rfl,by decide +kernel,by kernel_rfl⟩⟩⟩
theorem ok56 : OkF Tryd.prog (dcOf Tryd.prog) 56 Zz.F_impl_writeValue := Or.inl ⟨rfl,⟨⟨Tryd.f56,_,Tryd.func56,rfl,by kernel_rfl,by kernel_rfl,by kernel_rfl,by decide +kernel,by kernel_rfl⟩⟩⟩
theorem ok57 : OkF Tryd.prog (dcOf Tryd.prog) 57 Zz.F_impl_writeChoice := Or.inl ⟨rfl,⟨⟨Tryd.f57,_,Tryd.func57,rfl,by kernel_rfl,by kernel_rfl,by kernel_rfl,by decide +kernel,by kernel_rfl⟩⟩⟩
theorem ok58 : OkF Tryd.prog (dcOf Tryd.prog) 58 Zz.F_spec_PlanOk := Or.inl ⟨rfl,⟨⟨Tryd.f58,_,Tryd.func58,rfl,by kernel_rfl,by kernel_rfl,by kernel_rfl,by decide +kernel,by kernel_rfl⟩⟩⟩
theorem ok59 : OkF Tryd.prog (dcOf Tryd.prog) 59 Zz.F_spec_l11Text := Or.inl ⟨rfl,⟨⟨Tryd.f59,_,Tryd.func59,rfl,by kernel_rfl,by kernel_rfl,by kernel_rfl,by decide +kernel,by kernel_rfl⟩⟩⟩
theorem ok60 : OkF Tryd.prog (dcOf Tryd.prog) 60 Zz.F_spec_l3Table := Or.inl ⟨rfl,⟨⟨Tryd.f60,_,Tryd.func60,rfl,by kernel_rfl,by kernel_rfl,by kernel_rfl,by decide +kernel,by kernel_rfl⟩⟩⟩
theorem ok61 : OkF Tryd.prog (dcOf Tryd.prog) 61 Zz.F_spec_l4None := Or.inl ⟨rfl,⟨⟨Tryd.f61,_,Tryd.func61,rfl,by kernel_rfl,by kernel_rfl,by kernel_rfl,by decide +kernel,by kernel_rfl⟩⟩⟩
theorem ok62 : OkF Tryd.prog (dcOf Tryd.prog) 62 Zz.F_impl_pointsOf := Or.inl ⟨rfl,⟨⟨Tryd.f62,_,Tryd.func62,rfl,by kernel_rfl,by kernel_rfl,by kernel_rfl,by decide +kernel,by kernel_rfl⟩⟩⟩
theorem ok63 : OkF Tryd.prog (dcOf Tryd.prog) 63 Zz.F_impl_TestsOk := Or.inl ⟨rfl,⟨⟨Tryd.f63,_,Tryd.func63,rfl,by kernel_rfl,by kernel_rfl,by kernel_rfl,by decide +kernel,by kernel_rfl⟩⟩⟩
theorem ok64 : OkF Tryd.prog (dcOf Tryd.prog) 64 Zz.F_impl_readChoices := Or.inl ⟨rfl,⟨⟨Tryd.f64,_,Tryd.func64,rfl,by kernel_rfl,by kernel_rfl,by kernel_rfl,by decide +kernel,by kernel_rfl⟩⟩⟩
theorem ok66 : OkF Tryd.prog (dcOf Tryd.prog) 66 Zz.F_spec_l20Rd_pick := Or.inl ⟨rfl,⟨⟨Tryd.f66,_,Tryd.func66,rfl,by kernel_rfl,by kernel_rfl,by kernel_rfl,by decide +kernel,by kernel_rfl⟩⟩⟩
theorem ok67 : OkF Tryd.prog (dcOf Tryd.prog) 67 Zz.F_spec_l11Read := Or.inl ⟨rfl,⟨⟨Tryd.f67,_,Tryd.func67,rfl,by kernel_rfl,by kernel_rfl,by kernel_rfl,by decide +kernel,by kernel_rfl⟩⟩⟩
theorem ok68 : OkF Tryd.prog (dcOf Tryd.prog) 68 Zz.F_impl_TermOk := Or.inl ⟨rfl,⟨⟨Tryd.f68,_,Tryd.func68,rfl,by kernel_rfl,by kernel_rfl,by kernel_rfl,by decide +kernel,by kernel_rfl⟩⟩⟩
theorem ok69 : OkF Tryd.prog (dcOf Tryd.prog) 69 Zz.F_spec_l20Tests := Or.inl ⟨rfl,⟨⟨Tryd.f69,_,Tryd.func69,rfl,by kernel_rfl,by kernel_rfl,by kernel_rfl,by decide +kernel,by kernel_rfl⟩⟩⟩
theorem ok70 : OkF Tryd.prog (dcOf Tryd.prog) 70 Zz.F_spec_l1In := Or.inl ⟨rfl,⟨⟨Tryd.f70,_,Tryd.func70,rfl,by kernel_rfl,by kernel_rfl,by kernel_rfl,by decide +kernel,by kernel_rfl⟩⟩⟩
theorem ok73 : OkF Tryd.prog (dcOf Tryd.prog) 73 Zz.F_impl_isWithin := Or.inl ⟨rfl,⟨⟨Tryd.f73,_,Tryd.func73,rfl,by kernel_rfl,by kernel_rfl,by kernel_rfl,by decide +kernel,by kernel_rfl⟩⟩⟩
theorem ok79 : OkF Tryd.prog (dcOf Tryd.prog) 79 Zz.F_impl_trueStates := Or.inl ⟨rfl,⟨⟨Tryd.f79,_,Tryd.func79,rfl,by kernel_rfl,by kernel_rfl,by kernel_rfl,by decide +kernel,by kernel_rfl⟩⟩⟩
theorem ok96 : OkF Tryd.prog (dcOf Tryd.prog) 96 Zz.F_spec_l20Case := Or.inl ⟨rfl,⟨⟨Tryd.f96,_,Tryd.func96,rfl,by kernel_rfl,by kernel_rfl,by kernel_rfl,by decide +kernel,by kernel_rfl⟩⟩⟩
theorem ok97 : OkF Tryd.prog (dcOf Tryd.prog) 97 Zz.F_spec_l20Plan := Or.inl ⟨rfl,⟨⟨Tryd.f97,_,Tryd.func97,rfl,by kernel_rfl,by kernel_rfl,by kernel_rfl,by decide +kernel,by kernel_rfl⟩⟩⟩
theorem ok98 : OkF Tryd.prog (dcOf Tryd.prog) 98 Zz.F_impl_point_value := Or.inl ⟨rfl,⟨⟨Tryd.f98,_,Tryd.func98,rfl,by kernel_rfl,by kernel_rfl,by kernel_rfl,by decide +kernel,by kernel_rfl⟩⟩⟩
theorem ok99 : OkF Tryd.prog (dcOf Tryd.prog) 99 Zz.F_impl_point_answered := Or.inl ⟨rfl,⟨⟨Tryd.f99,_,Tryd.func99,rfl,by kernel_rfl,by kernel_rfl,by kernel_rfl,by decide +kernel,by kernel_rfl⟩⟩⟩
theorem ok100 : OkF Tryd.prog (dcOf Tryd.prog) 100 Zz.F_impl_letterOf := Or.inl ⟨rfl,⟨⟨Tryd.f100,_,Tryd.func100,rfl,by kernel_rfl,by kernel_rfl,by kernel_rfl,by decide +kernel,by kernel_rfl⟩⟩⟩
theorem ok101 : OkF Tryd.prog (dcOf Tryd.prog) 101 Zz.F_spec_l6Checks := Or.inl ⟨rfl,⟨⟨Tryd.f101,_,Tryd.func101,rfl,by kernel_rfl,by kernel_rfl,by kernel_rfl,by decide +kernel,by kernel_rfl⟩⟩⟩
theorem ok102 : OkF Tryd.prog (dcOf Tryd.prog) 102 Zz.F_spec_l6Once := Or.inl ⟨rfl,⟨⟨Tryd.f102,_,Tryd.func102,rfl,by kernel_rfl,by kernel_rfl,by kernel_rfl,by decide +kernel,by kernel_rfl⟩⟩⟩
theorem ok103 : OkF Tryd.prog (dcOf Tryd.prog) 103 Zz.F_spec_l1Number := Or.inl ⟨rfl,⟨⟨Tryd.f103,_,Tryd.func103,rfl,by kernel_rfl,by kernel_rfl,by kernel_rfl,by decide +kernel,by kernel_rfl⟩⟩⟩
theorem ok104 : OkF Tryd.prog (dcOf Tryd.prog) 104 Zz.F_spec_l3Forced := Or.inl ⟨rfl,⟨⟨Tryd.f104,_,Tryd.func104,rfl,by kernel_rfl,by kernel_rfl,by kernel_rfl,by decide +kernel,by kernel_rfl⟩⟩⟩
theorem ok105 : OkF Tryd.prog (dcOf Tryd.prog) 105 Zz.F_spec_l3Value := Or.inl ⟨rfl,⟨⟨Tryd.f105,_,Tryd.func105,rfl,by kernel_rfl,by kernel_rfl,by kernel_rfl,by decide +kernel,by kernel_rfl⟩⟩⟩
theorem ok106 : OkF Tryd.prog (dcOf Tryd.prog) 106 Zz.F_impl_comesTo := Or.inl ⟨rfl,⟨⟨Tryd.f106,_,Tryd.func106,rfl,by kernel_rfl,by kernel_rfl,by kernel_rfl,by decide +kernel,by kernel_rfl⟩⟩⟩
theorem ok107 : OkF Tryd.prog (dcOf Tryd.prog) 107 Zz.F_impl_point_canAsk := Or.inl ⟨rfl,⟨⟨Tryd.f107,_,Tryd.func107,rfl,by kernel_rfl,by kernel_rfl,by kernel_rfl,by decide +kernel,by kernel_rfl⟩⟩⟩
theorem ok108 : OkF Tryd.prog (dcOf Tryd.prog) 108 Zz.F_impl_manyOk := Or.inl ⟨rfl,⟨⟨Tryd.f108,_,Tryd.func108,rfl,by kernel_rfl,by kernel_rfl,by kernel_rfl,by decide +kernel,by kernel_rfl⟩⟩⟩
theorem ok109 : OkF Tryd.prog (dcOf Tryd.prog) 109 Zz.F_impl_readBehind := Or.inl ⟨rfl,⟨⟨Tryd.f109,_,Tryd.func109,rfl,by kernel_rfl,by kernel_rfl,by kernel_rfl,by decide +kernel,by kernel_rfl⟩⟩⟩
theorem ok110 : OkF Tryd.prog (dcOf Tryd.prog) 110 Zz.F_strings_CutPrefix := Or.inl ⟨rfl,⟨⟨Tryd.f110,_,Tryd.func110,rfl,by kernel_rfl,by kernel_rfl,by kernel_rfl,by decide +kernel,by kernel_rfl⟩⟩⟩
theorem ok111 : OkF Tryd.prog (dcOf Tryd.prog) 111 Zz.F_impl_laidOut := Or.inl ⟨rfl,⟨⟨Tryd.f111,_,Tryd.func111,rfl,by kernel_rfl,by kernel_rfl,by kernel_rfl,by decide +kernel,by kernel_rfl⟩⟩⟩
theorem ok112 : OkF Tryd.prog (dcOf Tryd.prog) 112 Zz.F_impl_placeOf := Or.inl ⟨rfl,⟨⟨Tryd.f112,_,Tryd.func112,rfl,by kernel_rfl,by kernel_rfl,by kernel_rfl,by decide +kernel,by kernel_rfl⟩⟩⟩
theorem ok113 : OkF Tryd.prog (dcOf Tryd.prog) 113 Zz.F_impl_partsTaken := Or.inl ⟨rfl,⟨⟨Tryd.f113,_,Tryd.func113,rfl,by kernel_rfl,by kernel_rfl,by kernel_rfl,by decide +kernel,by kernel_rfl⟩⟩⟩
theorem ok114 : OkF Tryd.prog (dcOf Tryd.prog) 114 Zz.F_impl_markOk := Or.inl ⟨rfl,⟨⟨Tryd.f114,_,Tryd.func114,rfl,by kernel_rfl,by kernel_rfl,by kernel_rfl,by decide +kernel,by kernel_rfl⟩⟩⟩
theorem ok115 : OkF Tryd.prog (dcOf Tryd.prog) 115 Zz.F_spec_l20Rd_odd := Or.inl ⟨rfl,⟨⟨Tryd.f115,_,Tryd.func115,rfl,by kernel_rfl,by kernel_rfl,by kernel_rfl,by decide +kernel,by kernel_rfl⟩⟩⟩
theorem ok118 : OkF Tryd.prog (dcOf Tryd.prog) 118 Zz.F_impl_foldTerm_uint32 := Or.inl ⟨rfl,⟨⟨Tryd.f118,_,Tryd.func118,rfl,by kernel_rfl,by kernel_rfl,by kernel_rfl,by decide +kernel,by kernel_rfl⟩⟩⟩
theorem ok119 : OkF Tryd.prog (dcOf Tryd.prog) 119 Zz.F_impl_statesOfPart := Or.inl ⟨rfl,⟨⟨Tryd.f119,_,Tryd.func119,rfl,by kernel_rfl,by kernel_rfl,by kernel_rfl,by decide +kernel,by kernel_rfl⟩⟩⟩
theorem ok124 : OkF Tryd.prog (dcOf Tryd.prog) 124 Zz.F_impl_point_isForced := Or.inl ⟨rfl,⟨⟨Tryd.f124,_,Tryd.func124,rfl,by kernel_rfl,by kernel_rfl,by kernel_rfl,by decide +kernel,by kernel_rfl⟩⟩⟩
theorem ok127 : OkF Tryd.prog (dcOf Tryd.prog) 127 Zz.F_impl_hasTest := Or.inl ⟨rfl,⟨⟨Tryd.f127,_,Tryd.func127,rfl,by kernel_rfl,by kernel_rfl,by kernel_rfl,by decide +kernel,by kernel_rfl⟩⟩⟩
theorem ok129 : OkF Tryd.prog (dcOf Tryd.prog) 129 Zz.F_spec_l20Term := Or.inl ⟨rfl,⟨⟨Tryd.f129,_,Tryd.func129,rfl,by kernel_rfl,by kernel_rfl,by kernel_rfl,by decide +kernel,by kernel_rfl⟩⟩⟩
theorem ok130 : OkF Tryd.prog (dcOf Tryd.prog) 130 Zz.F_spec_BestPlan := Or.inl ⟨rfl,⟨⟨Tryd.f130,_,Tryd.func130,rfl,by kernel_rfl,by kernel_rfl,by kernel_rfl,by decide +kernel,by kernel_rfl⟩⟩⟩
theorem ok131 : OkF Tryd.prog (dcOf Tryd.prog) 131 Zz.F_spec_OrderPlan := Or.inl ⟨rfl,⟨⟨Tryd.f131,_,Tryd.func131,rfl,by kernel_rfl,by kernel_rfl,by kernel_rfl,by decide +kernel,by kernel_rfl⟩⟩⟩
theorem ok132 : OkF Tryd.prog (dcOf Tryd.prog) 132 Zz.F_spec_l20Order := Or.inl ⟨rfl,⟨⟨Tryd.f132,_,Tryd.func132,rfl,by kernel_rfl,by kernel_rfl,by kernel_rfl,by decide +kernel,by kernel_rfl⟩⟩⟩
theorem ok133 : OkF Tryd.prog (dcOf Tryd.prog) 133 Zz.F_impl_valueAmong := Or.inl ⟨rfl,⟨⟨Tryd.f133,_,Tryd.func133,rfl,by kernel_rfl,by kernel_rfl,by kernel_rfl,by decide +kernel,by kernel_rfl⟩⟩⟩
theorem ok134 : OkF Tryd.prog (dcOf Tryd.prog) 134 Zz.F_impl_statesSaying := Or.inl ⟨rfl,⟨⟨Tryd.f134,_,Tryd.func134,rfl,by kernel_rfl,by kernel_rfl,by kernel_rfl,by decide +kernel,by kernel_rfl⟩⟩⟩
theorem ok135 : OkF Tryd.prog (dcOf Tryd.prog) 135 Zz.F_spec_l1Agrees := Or.inl ⟨rfl,⟨⟨Tryd.f135,_,Tryd.func135,rfl,by kernel_rfl,by kernel_rfl,by kernel_rfl,by decide +kernel,by kernel_rfl⟩⟩⟩
theorem ok136 : OkF Tryd.prog (dcOf Tryd.prog) 136 Zz.F_spec_l2Starts := Or.inl ⟨rfl,⟨⟨Tryd.f136,_,Tryd.func136,rfl,by kernel_rfl,by kernel_rfl,by kernel_rfl,by decide +kernel,by kernel_rfl⟩⟩⟩
theorem ok137 : OkF Tryd.prog (dcOf Tryd.prog) 137 Zz.F_internal_stringslite_CutPrefix := Or.inl ⟨rfl,⟨⟨Tryd.f137,_,Tryd.func137,rfl,by kernel_rfl,by kernel_rfl,by kernel_rfl,by decide +kernel,by kernel_rfl⟩⟩⟩
theorem ok138 : OkF Tryd.prog (dcOf Tryd.prog) 138 Zz.F_slices_Concat_impl_Choice_impl_Choice := Or.inl ⟨rfl,⟨⟨Tryd.f138,_,Tryd.func138,rfl,by kernel_rfl,by kernel_rfl,by kernel_rfl,by decide +kernel,by kernel_rfl⟩⟩⟩
theorem ok145 : OkF Tryd.prog (dcOf Tryd.prog) 145 Zz.F_spec_l6Grow := Or.inl ⟨rfl,⟨⟨Tryd.f145,_,Tryd.func145,rfl,by kernel_rfl,by kernel_rfl,by kernel_rfl,by decide +kernel,by kernel_rfl⟩⟩⟩
theorem ok146 : OkF Tryd.prog (dcOf Tryd.prog) 146 Zz.F_spec_l1Power := Or.inl ⟨rfl,⟨⟨Tryd.f146,_,Tryd.func146,rfl,by kernel_rfl,by kernel_rfl,by kernel_rfl,by decide +kernel,by kernel_rfl⟩⟩⟩
theorem ok147 : OkF Tryd.prog (dcOf Tryd.prog) 147 Zz.F_spec_OrderOk := Or.inl ⟨rfl,⟨⟨Tryd.f147,_,Tryd.func147,rfl,by kernel_rfl,by kernel_rfl,by kernel_rfl,by decide +kernel,by kernel_rfl⟩⟩⟩
theorem ok148 : OkF Tryd.prog (dcOf Tryd.prog) 148 Zz.F_spec_l6Line := Or.inl ⟨rfl,⟨⟨Tryd.f148,_,Tryd.func148,rfl,by kernel_rfl,by kernel_rfl,by kernel_rfl,by decide +kernel,by kernel_rfl⟩⟩⟩
theorem ok149 : OkF Tryd.prog (dcOf Tryd.prog) 149 Zz.F_internal_stringslite_HasPrefix := Or.inl ⟨rfl,⟨⟨Tryd.f149,_,Tryd.func149,rfl,by kernel_rfl,by kernel_rfl,by kernel_rfl,by decide +kernel,by kernel_rfl⟩⟩⟩
set_option maxRecDepth 100000 in
theorem ok150 : OkF Tryd.prog (dcOf Tryd.prog) 150 Zz.F_slices_Grow_impl_Choice_impl_Choice := Or.inr ⟨(growP 3),rfl,grow_sound growLays (by kernel_rfl) growInfo rfl (by decide) (by decide) (by decide)⟩
theorem ok152 : OkF Tryd.prog (dcOf Tryd.prog) 152 Zz.F_spec_l6Best := Or.inl ⟨rfl,⟨⟨Tryd.f152,_,Tryd.func152,rfl,by kernel_rfl,by kernel_rfl,by kernel_rfl,by decide +kernel,by kernel_rfl⟩⟩⟩
theorem mixed : Tryd.prog.follows .mixedOrders = true := by kernel_rfl
theorem okAll : ∀ f F,Zz.lf f = some F → OkF Tryd.prog (dcOf Tryd.prog) f F := by
 intro f F h
 unfold Zz.lf at h
 split at h
 ·injection h with h; subst h; exact ok4
 ·injection h with h; subst h; exact ok14
 ·injection h with h; subst h; exact ok15
 ·injection h with h; subst h; exact ok16
 ·injection h with h; subst h; exact ok17
 ·injection h with h; subst h; exact ok18
 ·injection h with h; subst h; exact ok20
 ·injection h with h; subst h; exact ok21
 ·injection h with h; subst h; exact ok22
 ·injection h with h; subst h; exact ok28
 ·injection h with h; subst h; exact ok35
 ·injection h with h; subst h; exact ok51
 ·injection h with h; subst h; exact ok52
 ·injection h with h; subst h; exact ok53
 ·injection h with h; subst h; exact ok54
 ·injection h with h; subst h; exact ok55
 ·injection h with h; subst h; exact ok56
 ·injection h with h; subst h; exact ok57
 ·injection h with h; subst h; exact ok58
 ·injection h with h; subst h; exact ok59
 ·injection h with h; subst h; exact ok60
 ·injection h with h; subst h; exact ok61
 ·injection h with h; subst h; exact ok62
 ·injection h with h; subst h; exact ok63
 ·injection h with h; subst h; exact ok64
 ·injection h with h; subst h; exact ok66
 ·injection h with h; subst h; exact ok67
 ·injection h with h; subst h; exact ok68
 ·injection h with h; subst h; exact ok69
 ·injection h with h; subst h; exact ok70
 ·injection h with h; subst h; exact ok73
 ·injection h with h; subst h; exact ok79
 ·injection h with h; subst h; exact ok96
 ·injection h with h; subst h; exact ok97
 ·injection h with h; subst h; exact ok98
 ·injection h with h; subst h; exact ok99
 ·injection h with h; subst h; exact ok100
 ·injection h with h; subst h; exact ok101
 ·injection h with h; subst h; exact ok102
 ·injection h with h; subst h; exact ok103
 ·injection h with h; subst h; exact ok104
 ·injection h with h; subst h; exact ok105
 ·injection h with h; subst h; exact ok106
 ·injection h with h; subst h; exact ok107
 ·injection h with h; subst h; exact ok108
 ·injection h with h; subst h; exact ok109
 ·injection h with h; subst h; exact ok110
 ·injection h with h; subst h; exact ok111
 ·injection h with h; subst h; exact ok112
 ·injection h with h; subst h; exact ok113
 ·injection h with h; subst h; exact ok114
 ·injection h with h; subst h; exact ok115
 ·injection h with h; subst h; exact ok118
 ·injection h with h; subst h; exact ok119
 ·injection h with h; subst h; exact ok124
 ·injection h with h; subst h; exact ok127
 ·injection h with h; subst h; exact ok129
 ·injection h with h; subst h; exact ok130
 ·injection h with h; subst h; exact ok131
 ·injection h with h; subst h; exact ok132
 ·injection h with h; subst h; exact ok133
 ·injection h with h; subst h; exact ok134
 ·injection h with h; subst h; exact ok135
 ·injection h with h; subst h; exact ok136
 ·injection h with h; subst h; exact ok137
 ·injection h with h; subst h; exact ok138
 ·injection h with h; subst h; exact ok145
 ·injection h with h; subst h; exact ok146
 ·injection h with h; subst h; exact ok147
 ·injection h with h; subst h; exact ok148
 ·injection h with h; subst h; exact ok149
 ·injection h with h; subst h; exact ok150
 ·injection h with h; subst h; exact ok152
 ·cases h
theorem said {f : Nat} {args : List DV} {r : DV × List DV} (h : call Zz.lf f args = some r) : CallSpec Tryd.prog f args r := call_sound okAll (draw_ok mixed) back_ok h
end Go.Proofs.YtplfgkjggohajabDoor.oks
