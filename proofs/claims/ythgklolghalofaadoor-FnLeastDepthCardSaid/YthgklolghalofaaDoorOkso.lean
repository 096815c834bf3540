/- That the data is what the program says, function by function. No conditions. -/
import Derived.Test.YthgklolghalofaaDoorIro
import Derived.Test.YthgklolghalofaaDoorLgD
import Derived.Test.YthgklolghalofaaDoorRows
set_option linter.unusedSectionVars false
set_option linter.unusedVariables false
set_option linter.unusedSimpArgs false
namespace Go.Proofs.YthgklolghalofaaDoor.oks
open Go.Lg Zz
theorem ok15 : OkF Tryd.prog (dcOf Tryd.prog) 15 Zz.F_laws_FnLeastDepth := Or.inl ⟨rfl, ⟨⟨Tryd.f15, _, Tryd.func15, rfl, by kernel_rfl, by kernel_rfl, by kernel_rfl, by decide +kernel, by kernel_rfl⟩⟩⟩
theorem ok18 : OkF Tryd.prog (dcOf Tryd.prog) 18 Zz.F_laws_alive := Or.inl ⟨rfl, ⟨⟨Tryd.f18, _, Tryd.func18, rfl, by kernel_rfl, by kernel_rfl, by kernel_rfl, by decide +kernel, by kernel_rfl⟩⟩⟩
theorem ok38 : OkF Tryd.prog (dcOf Tryd.prog) 38 Zz.F_spec_TermOk := Or.inl ⟨rfl, ⟨⟨Tryd.f38, _, Tryd.func38, rfl, by kernel_rfl, by kernel_rfl, by kernel_rfl, by decide +kernel, by kernel_rfl⟩⟩⟩
theorem ok39 : OkF Tryd.prog (dcOf Tryd.prog) 39 Zz.F_impl_DualTerm := Or.inl ⟨rfl, ⟨⟨Tryd.f39, _, Tryd.func39, rfl, by kernel_rfl, by kernel_rfl, by kernel_rfl, by decide +kernel, by kernel_rfl⟩⟩⟩
theorem ok40 : OkF Tryd.prog (dcOf Tryd.prog) 40 Zz.F_impl_TermOk := Or.inl ⟨rfl, ⟨⟨Tryd.f40, _, Tryd.func40, rfl, by kernel_rfl, by kernel_rfl, by kernel_rfl, by decide +kernel, by kernel_rfl⟩⟩⟩
theorem ok62 : OkF Tryd.prog (dcOf Tryd.prog) 62 Zz.F_impl_LeastProofs := Or.inl ⟨rfl, ⟨⟨Tryd.f62, _, Tryd.func62, rfl, by kernel_rfl, by kernel_rfl, by kernel_rfl, by decide +kernel, by kernel_rfl⟩⟩⟩
theorem ok63 : OkF Tryd.prog (dcOf Tryd.prog) 63 Zz.F_impl_ProofOk := Or.inl ⟨rfl, ⟨⟨Tryd.f63, _, Tryd.func63, rfl, by kernel_rfl, by kernel_rfl, by kernel_rfl, by decide +kernel, by kernel_rfl⟩⟩⟩
theorem ok64 : OkF Tryd.prog (dcOf Tryd.prog) 64 Zz.F_spec_DrawLeastDepth := Or.inl ⟨rfl, ⟨⟨Tryd.f64, _, Tryd.func64, rfl, by kernel_rfl, by kernel_rfl, by kernel_rfl, by decide +kernel, by kernel_rfl⟩⟩⟩
theorem ok65 : OkF Tryd.prog (dcOf Tryd.prog) 65 Zz.F_impl_LeastDepth := Or.inl ⟨rfl, ⟨⟨Tryd.f65, _, Tryd.func65, rfl, by kernel_rfl, by kernel_rfl, by kernel_rfl, by decide +kernel, by kernel_rfl⟩⟩⟩
theorem ok66 : OkF Tryd.prog (dcOf Tryd.prog) 66 Zz.F_spec_LeastDepth := Or.inl ⟨rfl, ⟨⟨Tryd.f66, _, Tryd.func66, rfl, by kernel_rfl, by kernel_rfl, by kernel_rfl, by decide +kernel, by kernel_rfl⟩⟩⟩
theorem ok67 : OkF Tryd.prog (dcOf Tryd.prog) 67 Zz.F_impl_LettersOf := Or.inl ⟨rfl, ⟨⟨Tryd.f67, _, Tryd.func67, rfl, by kernel_rfl, by kernel_rfl, by kernel_rfl, by decide +kernel, by kernel_rfl⟩⟩⟩
theorem ok68 : OkF Tryd.prog (dcOf Tryd.prog) 68 Zz.F_impl_OnceOk := Or.inl ⟨rfl, ⟨⟨Tryd.f68, _, Tryd.func68, rfl, by kernel_rfl, by kernel_rfl, by kernel_rfl, by decide +kernel, by kernel_rfl⟩⟩⟩
theorem ok70 : OkF Tryd.prog (dcOf Tryd.prog) 70 Zz.F_spec_l20Open := Or.inl ⟨rfl, ⟨⟨Tryd.f70, _, Tryd.func70, rfl, by kernel_rfl, by kernel_rfl, by kernel_rfl, by decide +kernel, by kernel_rfl⟩⟩⟩
theorem ok71 : OkF Tryd.prog (dcOf Tryd.prog) 71 Zz.F_impl_TestsOk := Or.inl ⟨rfl, ⟨⟨Tryd.f71, _, Tryd.func71, rfl, by kernel_rfl, by kernel_rfl, by kernel_rfl, by decide +kernel, by kernel_rfl⟩⟩⟩
theorem ok72 : OkF Tryd.prog (dcOf Tryd.prog) 72 Zz.F_impl_leastFrom := Or.inl ⟨rfl, ⟨⟨Tryd.f72, _, Tryd.func72, rfl, by kernel_rfl, by kernel_rfl, by kernel_rfl, by decide +kernel, by kernel_rfl⟩⟩⟩
theorem ok73 : OkF Tryd.prog (dcOf Tryd.prog) 73 Zz.F_impl_startOf := Or.inl ⟨rfl, ⟨⟨Tryd.f73, _, Tryd.func73, rfl, by kernel_rfl, by kernel_rfl, by kernel_rfl, by decide +kernel, by kernel_rfl⟩⟩⟩
theorem ok78 : OkF Tryd.prog (dcOf Tryd.prog) 78 Zz.F_impl_StateOk := Or.inl ⟨rfl, ⟨⟨Tryd.f78, _, Tryd.func78, rfl, by kernel_rfl, by kernel_rfl, by kernel_rfl, by decide +kernel, by kernel_rfl⟩⟩⟩
theorem ok81 : OkF Tryd.prog (dcOf Tryd.prog) 81 Zz.F_spec_l20Rd_pick := Or.inl ⟨rfl, ⟨⟨Tryd.f81, _, Tryd.func81, rfl, by kernel_rfl, by kernel_rfl, by kernel_rfl, by decide +kernel, by kernel_rfl⟩⟩⟩
theorem ok82 : OkF Tryd.prog (dcOf Tryd.prog) 82 Zz.F_impl_isWithin := Or.inl ⟨rfl, ⟨⟨Tryd.f82, _, Tryd.func82, rfl, by kernel_rfl, by kernel_rfl, by kernel_rfl, by decide +kernel, by kernel_rfl⟩⟩⟩
theorem ok84 : OkF Tryd.prog (dcOf Tryd.prog) 84 Zz.F_spec_l1In := Or.inl ⟨rfl, ⟨⟨Tryd.f84, _, Tryd.func84, rfl, by kernel_rfl, by kernel_rfl, by kernel_rfl, by decide +kernel, by kernel_rfl⟩⟩⟩
theorem ok86 : OkF Tryd.prog (dcOf Tryd.prog) 86 Zz.F_spec_l4None := Or.inl ⟨rfl, ⟨⟨Tryd.f86, _, Tryd.func86, rfl, by kernel_rfl, by kernel_rfl, by kernel_rfl, by decide +kernel, by kernel_rfl⟩⟩⟩
theorem ok91 : OkF Tryd.prog (dcOf Tryd.prog) 91 Zz.F_impl_outcomeIn := Or.inl ⟨rfl, ⟨⟨Tryd.f91, _, Tryd.func91, rfl, by kernel_rfl, by kernel_rfl, by kernel_rfl, by decide +kernel, by kernel_rfl⟩⟩⟩
theorem ok93 : OkF Tryd.prog (dcOf Tryd.prog) 93 Zz.F_spec_l3Table := Or.inl ⟨rfl, ⟨⟨Tryd.f93, _, Tryd.func93, rfl, by kernel_rfl, by kernel_rfl, by kernel_rfl, by decide +kernel, by kernel_rfl⟩⟩⟩
theorem ok95 : OkF Tryd.prog (dcOf Tryd.prog) 95 Zz.F_impl_manyOk := Or.inl ⟨rfl, ⟨⟨Tryd.f95, _, Tryd.func95, rfl, by kernel_rfl, by kernel_rfl, by kernel_rfl, by decide +kernel, by kernel_rfl⟩⟩⟩
theorem ok96 : OkF Tryd.prog (dcOf Tryd.prog) 96 Zz.F_impl_partsTaken := Or.inl ⟨rfl, ⟨⟨Tryd.f96, _, Tryd.func96, rfl, by kernel_rfl, by kernel_rfl, by kernel_rfl, by decide +kernel, by kernel_rfl⟩⟩⟩
theorem ok97 : OkF Tryd.prog (dcOf Tryd.prog) 97 Zz.F_impl_markOk := Or.inl ⟨rfl, ⟨⟨Tryd.f97, _, Tryd.func97, rfl, by kernel_rfl, by kernel_rfl, by kernel_rfl, by decide +kernel, by kernel_rfl⟩⟩⟩
theorem ok98 : OkF Tryd.prog (dcOf Tryd.prog) 98 Zz.F_spec_l20Term := Or.inl ⟨rfl, ⟨⟨Tryd.f98, _, Tryd.func98, rfl, by kernel_rfl, by kernel_rfl, by kernel_rfl, by decide +kernel, by kernel_rfl⟩⟩⟩
theorem ok106 : OkF Tryd.prog (dcOf Tryd.prog) 106 Zz.F_impl_statesOf := Or.inl ⟨rfl, ⟨⟨Tryd.f106, _, Tryd.func106, rfl, by kernel_rfl, by kernel_rfl, by kernel_rfl, by decide +kernel, by kernel_rfl⟩⟩⟩
theorem ok111 : OkF Tryd.prog (dcOf Tryd.prog) 111 Zz.F_impl_trueStates := Or.inl ⟨rfl, ⟨⟨Tryd.f111, _, Tryd.func111, rfl, by kernel_rfl, by kernel_rfl, by kernel_rfl, by decide +kernel, by kernel_rfl⟩⟩⟩
theorem ok126 : OkF Tryd.prog (dcOf Tryd.prog) 126 Zz.F_impl_setsWhere := Or.inl ⟨rfl, ⟨⟨Tryd.f126, _, Tryd.func126, rfl, by kernel_rfl, by kernel_rfl, by kernel_rfl, by decide +kernel, by kernel_rfl⟩⟩⟩
theorem ok127 : OkF Tryd.prog (dcOf Tryd.prog) 127 Zz.F_impl_LeastProofs_1 := Or.inl ⟨rfl, ⟨⟨Tryd.f127, _, Tryd.func127, rfl, by kernel_rfl, by kernel_rfl, by kernel_rfl, by decide +kernel, by kernel_rfl⟩⟩⟩
theorem ok128 : OkF Tryd.prog (dcOf Tryd.prog) 128 Zz.F_impl_isLeastProof := Or.inl ⟨rfl, ⟨⟨Tryd.f128, _, Tryd.func128, rfl, by kernel_rfl, by kernel_rfl, by kernel_rfl, by decide +kernel, by kernel_rfl⟩⟩⟩
theorem ok129 : OkF Tryd.prog (dcOf Tryd.prog) 129 Zz.F_impl_ForcedBy := Or.inl ⟨rfl, ⟨⟨Tryd.f129, _, Tryd.func129, rfl, by kernel_rfl, by kernel_rfl, by kernel_rfl, by decide +kernel, by kernel_rfl⟩⟩⟩
theorem ok130 : OkF Tryd.prog (dcOf Tryd.prog) 130 Zz.F_impl_knownBy := Or.inl ⟨rfl, ⟨⟨Tryd.f130, _, Tryd.func130, rfl, by kernel_rfl, by kernel_rfl, by kernel_rfl, by decide +kernel, by kernel_rfl⟩⟩⟩
theorem ok131 : OkF Tryd.prog (dcOf Tryd.prog) 131 Zz.F_spec_l20Asked := Or.inl ⟨rfl, ⟨⟨Tryd.f131, _, Tryd.func131, rfl, by kernel_rfl, by kernel_rfl, by kernel_rfl, by decide +kernel, by kernel_rfl⟩⟩⟩
theorem ok132 : OkF Tryd.prog (dcOf Tryd.prog) 132 Zz.F_impl_LeastDepth_1 := Or.inl ⟨rfl, ⟨⟨Tryd.f132, _, Tryd.func132, rfl, by kernel_rfl, by kernel_rfl, by kernel_rfl, by decide +kernel, by kernel_rfl⟩⟩⟩
theorem ok133 : OkF Tryd.prog (dcOf Tryd.prog) 133 Zz.F_spec_l6Depth := Or.inl ⟨rfl, ⟨⟨Tryd.f133, _, Tryd.func133, rfl, by kernel_rfl, by kernel_rfl, by kernel_rfl, by decide +kernel, by kernel_rfl⟩⟩⟩
theorem ok134 : OkF Tryd.prog (dcOf Tryd.prog) 134 Zz.F_impl_point_isForced := Or.inl ⟨rfl, ⟨⟨Tryd.f134, _, Tryd.func134, rfl, by kernel_rfl, by kernel_rfl, by kernel_rfl, by decide +kernel, by kernel_rfl⟩⟩⟩
theorem ok135 : OkF Tryd.prog (dcOf Tryd.prog) 135 Zz.F_impl_point_canAsk := Or.inl ⟨rfl, ⟨⟨Tryd.f135, _, Tryd.func135, rfl, by kernel_rfl, by kernel_rfl, by kernel_rfl, by decide +kernel, by kernel_rfl⟩⟩⟩
theorem ok136 : OkF Tryd.prog (dcOf Tryd.prog) 136 Zz.F_impl_point_answered := Or.inl ⟨rfl, ⟨⟨Tryd.f136, _, Tryd.func136, rfl, by kernel_rfl, by kernel_rfl, by kernel_rfl, by decide +kernel, by kernel_rfl⟩⟩⟩
theorem ok138 : OkF Tryd.prog (dcOf Tryd.prog) 138 Zz.F_spec_l20Rd_odd := Or.inl ⟨rfl, ⟨⟨Tryd.f138, _, Tryd.func138, rfl, by kernel_rfl, by kernel_rfl, by kernel_rfl, by decide +kernel, by kernel_rfl⟩⟩⟩
theorem ok143 : OkF Tryd.prog (dcOf Tryd.prog) 143 Zz.F_spec_l3Forced := Or.inl ⟨rfl, ⟨⟨Tryd.f143, _, Tryd.func143, rfl, by kernel_rfl, by kernel_rfl, by kernel_rfl, by decide +kernel, by kernel_rfl⟩⟩⟩
theorem ok144 : OkF Tryd.prog (dcOf Tryd.prog) 144 Zz.F_spec_l3Value := Or.inl ⟨rfl, ⟨⟨Tryd.f144, _, Tryd.func144, rfl, by kernel_rfl, by kernel_rfl, by kernel_rfl, by decide +kernel, by kernel_rfl⟩⟩⟩
theorem ok145 : OkF Tryd.prog (dcOf Tryd.prog) 145 Zz.F_impl_hasTest := Or.inl ⟨rfl, ⟨⟨Tryd.f145, _, Tryd.func145, rfl, by kernel_rfl, by kernel_rfl, by kernel_rfl, by decide +kernel, by kernel_rfl⟩⟩⟩
theorem ok148 : OkF Tryd.prog (dcOf Tryd.prog) 148 Zz.F_impl_foldTerm_uint32 := Or.inl ⟨rfl, ⟨⟨Tryd.f148, _, Tryd.func148, rfl, by kernel_rfl, by kernel_rfl, by kernel_rfl, by decide +kernel, by kernel_rfl⟩⟩⟩
theorem ok149 : OkF Tryd.prog (dcOf Tryd.prog) 149 Zz.F_impl_statesOfPart := Or.inl ⟨rfl, ⟨⟨Tryd.f149, _, Tryd.func149, rfl, by kernel_rfl, by kernel_rfl, by kernel_rfl, by decide +kernel, by kernel_rfl⟩⟩⟩
theorem ok152 : OkF Tryd.prog (dcOf Tryd.prog) 152 Zz.F_impl_KnownOk := Or.inl ⟨rfl, ⟨⟨Tryd.f152, _, Tryd.func152, rfl, by kernel_rfl, by kernel_rfl, by kernel_rfl, by decide +kernel, by kernel_rfl⟩⟩⟩
theorem ok153 : OkF Tryd.prog (dcOf Tryd.prog) 153 Zz.F_impl_valueAmong := Or.inl ⟨rfl, ⟨⟨Tryd.f153, _, Tryd.func153, rfl, by kernel_rfl, by kernel_rfl, by kernel_rfl, by decide +kernel, by kernel_rfl⟩⟩⟩
theorem ok154 : OkF Tryd.prog (dcOf Tryd.prog) 154 Zz.F_impl_agreeingStates := Or.inl ⟨rfl, ⟨⟨Tryd.f154, _, Tryd.func154, rfl, by kernel_rfl, by kernel_rfl, by kernel_rfl, by decide +kernel, by kernel_rfl⟩⟩⟩
theorem ok155 : OkF Tryd.prog (dcOf Tryd.prog) 155 Zz.F_impl_statesSaying := Or.inl ⟨rfl, ⟨⟨Tryd.f155, _, Tryd.func155, rfl, by kernel_rfl, by kernel_rfl, by kernel_rfl, by decide +kernel, by kernel_rfl⟩⟩⟩
theorem ok159 : OkF Tryd.prog (dcOf Tryd.prog) 159 Zz.F_spec_l1Agrees := Or.inl ⟨rfl, ⟨⟨Tryd.f159, _, Tryd.func159, rfl, by kernel_rfl, by kernel_rfl, by kernel_rfl, by decide +kernel, by kernel_rfl⟩⟩⟩
theorem ok160 : OkF Tryd.prog (dcOf Tryd.prog) 160 Zz.F_spec_l2Starts := Or.inl ⟨rfl, ⟨⟨Tryd.f160, _, Tryd.func160, rfl, by kernel_rfl, by kernel_rfl, by kernel_rfl, by decide +kernel, by kernel_rfl⟩⟩⟩
theorem mixed : Tryd.prog.follows .mixedOrders = true := by kernel_rfl
theorem okAll : ∀ f F, Zz.lf f = some F → OkF Tryd.prog (dcOf Tryd.prog) f F := by
  intro f F h
  unfold Zz.lf at h
  split at h
  · injection h with h; subst h; exact ok15
  · injection h with h; subst h; exact ok18
  · injection h with h; subst h; exact ok38
  · injection h with h; subst h; exact ok39
  · injection h with h; subst h; exact ok40
  · injection h with h; subst h; exact ok62
  · injection h with h; subst h; exact ok63
  · injection h with h; subst h; exact ok64
  · injection h with h; subst h; exact ok65
  · injection h with h; subst h; exact ok66
  · injection h with h; subst h; exact ok67
  · injection h with h; subst h; exact ok68
  · injection h with h; subst h; exact ok70
  · injection h with h; subst h; exact ok71
  · injection h with h; subst h; exact ok72
  · injection h with h; subst h; exact ok73
  · injection h with h; subst h; exact ok78
  · injection h with h; subst h; exact ok81
  · injection h with h; subst h; exact ok82
  · injection h with h; subst h; exact ok84
  · injection h with h; subst h; exact ok86
  · injection h with h; subst h; exact ok91
  · injection h with h; subst h; exact ok93
  · injection h with h; subst h; exact ok95
  · injection h with h; subst h; exact ok96
  · injection h with h; subst h; exact ok97
  · injection h with h; subst h; exact ok98
  · injection h with h; subst h; exact ok106
  · injection h with h; subst h; exact ok111
  · injection h with h; subst h; exact ok126
  · injection h with h; subst h; exact ok127
  · injection h with h; subst h; exact ok128
  · injection h with h; subst h; exact ok129
  · injection h with h; subst h; exact ok130
  · injection h with h; subst h; exact ok131
  · injection h with h; subst h; exact ok132
  · injection h with h; subst h; exact ok133
  · injection h with h; subst h; exact ok134
  · injection h with h; subst h; exact ok135
  · injection h with h; subst h; exact ok136
  · injection h with h; subst h; exact ok138
  · injection h with h; subst h; exact ok143
  · injection h with h; subst h; exact ok144
  · injection h with h; subst h; exact ok145
  · injection h with h; subst h; exact ok148
  · injection h with h; subst h; exact ok149
  · injection h with h; subst h; exact ok152
  · injection h with h; subst h; exact ok153
  · injection h with h; subst h; exact ok154
  · injection h with h; subst h; exact ok155
  · injection h with h; subst h; exact ok159
  · injection h with h; subst h; exact ok160
  · cases h
theorem said {f : Nat} {args : List DV} {r : DV × List DV} (h : call Zz.lf f args = some r) : CallSpec Tryd.prog f args r := call_sound okAll (draw_ok mixed) h
end Go.Proofs.YthgklolghalofaaDoor.oks
