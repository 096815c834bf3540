/- The law FnExactGroupPlan: at every input it answers true, the one listed table tied to the text of the program. No other conditions. -/
import Derived.Test.YtffghabijlfpeaaDoorEBzy
import Derived.Test.YtffghabijlfpeaaDoorOkszy
import Derived.Test.YtffghabijlfpeaaDoorFx
import Derived.Test.YtffghabijlfpeaaDoorCards
import Derived.Test.YtffghabijlfpeaaDoorTie
import Derived.Test.YtffghabijlfpeaaDoorLgD
import Derived.Test.YtffghabijlfpeaaDoorLgEzy
import Derived.Test.YtffghabijlfpeaaDoorLgFzy
import Derived.WalkKit
import Derived.ProofKit
import Derived.OpenShut
import Derived.ShutString
import Derived.ChangeOld
import Derived.Below
import Derived.Deep.Slices
import Derived.Deep.Fields
import Derived.ChangeSame
import Derived.Deep.DeepHandedRow
import Derived.Lib.LaidTab
import Derived.OpenVars
set_option linter.unusedSectionVars false
set_option linter.unusedVariables false
set_option linter.unusedSimpArgs false
namespace Go.Proofs.YtffghabijlfpeaaDoor.fnExactGroupPlan
open Go.Lg Zz
open Go.ChangeShapes Go.WideShapes Go.ChangeAt Go.RowKit
open Go.ChangeMaps (open_string shut_string)
set_option linter.unusedVariables false
set_option linter.unusedSimpArgs false

theorem own : ownKnob Tryd.prog.godebug = none := by kernel_rfl
theorem laidOut : laidOutB Tryd.prog = true := by kernel_rfl
theorem gTab : Tryd.prog.globalNamed "loop.example/checksinorder/impl.yesStates" = some 0 := by kernel_rfl
theorem gTabType : (Tryd.prog.globals[0]?).map (·.type) = some 102 := by kernel_rfl
theorem cellsA : Tryd.prog.cellsOf 102 = 5 := by kernel_rfl
theorem cellsE : Tryd.prog.cellsOf 52 = 1 := by kernel_rfl
theorem table {W : World} (h : laidMetH Tryd.prog Rows.fnExactGroupPlanRow.laid W) : Lib.TabIs Tryd.prog W "loop.example/checksinorder/impl.yesStates" .u32 [2863311530, 3435973836, 4042322160, 4278255360, 4294901760] :=
  Lib.tabIs_of_head (rest := []) gTab gTabType Tryd.underlying102 Tryd.underlying52 cellsE cellsA h
theorem globs {W : World} (h : Lib.TabIs Tryd.prog W "loop.example/checksinorder/impl.yesStates" .u32 [2863311530, 3435973836, 4042322160, 4278255360, 4294901760]) : GlobC ⟨W, fun _ => True, []⟩ := by
  intro r hr
  have hr' : r = (0, DV.st [.w (2863311530#32), .w (3435973836#32), .w (4042322160#32), .w (4278255360#32), .w (4294901760#32)]) := List.mem_singleton.1 hr
  subst hr'
  have c := fun i hi => h.cell gTab i hi
  have c0 := c 0 (by decide)
  have hlt : 0 < W.heap.size := by
    unfold World.cell? at c0
    by_cases hb : 0 < W.heap.size
    · exact hb
    · rw [Array.getElem?_eq_none (by simpa using hb)] at c0
      cases c0
  refine ⟨hlt, trivial, fun q hq => (by cases hq), [.int .u32 2863311530, .int .u32 3435973836, .int .u32 4042322160, .int .u32 4278255360, .int .u32 4294901760], fun j u hu => ?_, fun w B ok => ⟨rfl, fun j c u hc hu => ?_⟩⟩
  · rw [add_plain', Nat.zero_add]
    match j, hu with
    | 0, hu => simp at hu; subst hu; exact c 0 (by decide)
    | 1, hu => simp at hu; subst hu; exact c 1 (by decide)
    | 2, hu => simp at hu; subst hu; exact c 2 (by decide)
    | 3, hu => simp at hu; subst hu; exact c 3 (by decide)
    | 4, hu => simp at hu; subst hu; exact c 4 (by decide)
    | j + 5, hu => simp at hu
  · match j, hc, hu with
    | 0, hc, hu => simp [DV.cells] at hc hu; subst hc; subst hu; exact .w (2863311530#32)
    | 1, hc, hu => simp [DV.cells] at hc hu; subst hc; subst hu; exact .w (3435973836#32)
    | 2, hc, hu => simp [DV.cells] at hc hu; subst hc; subst hu; exact .w (4042322160#32)
    | 3, hc, hu => simp [DV.cells] at hc hu; subst hc; subst hu; exact .w (4278255360#32)
    | 4, hc, hu => simp [DV.cells] at hc hu; subst hc; subst hu; exact .w (4294901760#32)
    | j + 5, hc, hu => simp [DV.cells] at hc
theorem walk (v0 : Value) (x0 : List (Int × Int)) (v1 : Value) (x1 : List (List Int)) (w : World) (hT : Lib.TabIs Tryd.prog w "loop.example/checksinorder/impl.yesStates" .u32 [2863311530, 3435973836, 4042322160, 4278255360, 4294901760]) (w0 : CR w w.heap.size (okb (fun _ => True) w.heap.size fun _ => none) (rs2 x0) v0 ∧ x0.length ≤ maxLen) (w1 : CR w w.heap.size (okb (fun _ => True) w.heap.size fun _ => none) (rss x1) v1 ∧ x1.length ≤ maxLen ∧ ∀ r ∈ x1, r.length ≤ maxLen) : Calls Tryd.prog 3 #[v0, v1] w fun e w' => e = .returned (.bool true) ∧ Below w.heap.size w w' := by
  exact Zz.law_FnExactGroupPlan oks.okAll (draw_ok oks.mixed) oks.backs x0 w0.2 x1 w1.2 (globs hT) w0.1 w1.1

set_option maxRecDepth 100000 in
theorem contract (H : Type) (enc : TypeId × Value → H) (W : World) (base : Nat) (args : Array Value) (ds gs : List (DataW H)) (before : List MemPlace)
    (hval : ∀ (j : Nat) t v, Tryd.f3.params[j]? = some t → args[j]? = some v → Value.okWide Tryd.prog W .any base t v)
    (hW : DataW.Whole enc Tryd.prog Tryd.f3.params.toList Rows.fnExactGroupPlanSpec.vars false W args.toList ds gs before) (hL : laidMetH Tryd.prog Rows.fnExactGroupPlanRow.laid W) :
    Calls Tryd.prog 3 args W fun e W' => ∃ v, e = .returned v ∧ Rows.fnExactGroupPlanSpec.post enc Tryd.prog Tryd.f3 false true false false W args v W' := by
  have hT := table hL
  have hW' := hW
  obtain ⟨p, q, hA0, hV, rfl, hfz, hnd⟩ := hW
  have hA : DataW.TrodAll enc Tryd.prog W 0 (fun _ => true) true Tryd.f3.params.toList args.toList ds p := hA0
  rw [Tryd.params3] at hA hval
  obtain ⟨v0, vs0, d0, ds0, p0, q0, hargs, rfl, rfl, h0, r0⟩ := trodAll_cons hA
  obtain ⟨v1, vs1, d1, ds1, p1, q1, rfl, rfl, rfl, h1, r1⟩ := trodAll_cons r0
  obtain ⟨rfl, rfl, rfl⟩ := trodAll_nil r1
  obtain rfl : args = #[v0, v1] := by cases args; simp_all
  obtain ⟨g1, hg1⟩ : ∃ g1, gs = [g1] := by
    obtain ⟨g, t, cs, fuel, d, p, rfl, _⟩ := trodVars_one hV
    exact ⟨_, rfl⟩
  subst hg1
  have k0 := h0
  have lt0 : ∀ x ∈ p0, x.block < W.heap.size := by obtain ⟨m, hm⟩ := k0; exact DataW.trod_lt m _ _ _ hm
  obtain ⟨x0, w0⟩ := open_rs2 Tryd.underlying22 Tryd.underlying46 (by kernel_rfl) (by kernel_rfl) Tryd.underlying3 Tryd.underlying3 (hval 0 22 v0 rfl rfl) h0
  have k1 := h1
  have lt1 : ∀ x ∈ p1, x.block < W.heap.size := by obtain ⟨m, hm⟩ := k1; exact DataW.trod_lt m _ _ _ hm
  obtain ⟨x1, w1⟩ := open_rss Tryd.underlying23 Tryd.underlying39 Tryd.underlying3 (by kernel_rfl) (by kernel_rfl) (hval 1 23 v1 rfl rfl) h1
  clear hA0
  refine (walk v0 x0 v1 x1 W hT w0 w1).mono fun e W' ⟨he, bel⟩ => ?_
  subst he
  exact ⟨_, rfl, _, _, _, [], _, _, hW', trodAll_mk1 (shut_bool Tryd.underlying4 _), (trodAll_cons_mk (Below.trod laidOut (by kernel_rfl) (of_decide_eq_true (by kernel_rfl)) k0 bel lt0) (trodAll_cons_mk (Below.trod laidOut (by kernel_rfl) (of_decide_eq_true (by kernel_rfl)) k1 bel lt1) trodAll_mk0)), bel.trodVars laidOut (by kernel_rfl) hV, bel.frame _, fun h => by cases h⟩

noncomputable def laidWorld (os : Os) : World :=
  { World.holding Tryd.prog os ⟨#[], #[], []⟩ with heap := (World.holding Tryd.prog os ⟨#[], #[], []⟩).heap.modify 0 fun
      | .cells _ t frozen => .cells #[.int .u32 2863311530, .int .u32 3435973836, .int .u32 4042322160, .int .u32 4278255360, .int .u32 4294901760] t frozen
      | o => o }
theorem laid_met (os : Os) : laidMet Tryd.prog Rows.fnExactGroupPlanRow.laid ((laidWorld os).forCall (fun _ _ => 0) ⟨#[], #[.slice none 0 0, .slice none 0 0], []⟩).memory :=
  laidMet_of_run' 8 (by kernel_rfl) (by kernel_rfl)
theorem reads (os : Os) {H : Type} (enc : TypeId × Value → H) : ∃ places, DataW.whole enc Tryd.prog ((laidWorld os).forCall (fun _ _ => 0) ⟨#[], #[.slice none 0 0, .slice none 0 0], []⟩).memory Tryd.f3.params.toList Rows.fnExactGroupPlanSpec.vars false (#[.slice none 0 0, .slice none 0 0] : Array Value).toList 8 = some ([.nil, .nil], [Rows.laid_loop_example_checksinorder_impl_yesStates], places) :=
  ⟨MemPlace.row ⟨0, 0, none⟩ 5, by kernel_rfl⟩
set_option maxRecDepth 100000 in
theorem lifted (os : Os) (started : os.Started) (H : Type) (enc : TypeId × Value → H) (F : Stop.Interp) :
    ReturnsInHanded {} Tryd.checked os 3 .any ((OpenSpec.ofChange Rows.fnExactGroupPlanSpec).preRow enc Tryd.prog Tryd.f3 Rows.fnExactGroupPlanRow.domain false Rows.fnExactGroupPlanRow.laid) (((OpenSpec.ofChange Rows.fnExactGroupPlanSpec).at F).post enc Tryd.prog Tryd.f3 false true false false) := by
  obtain ⟨places, hx⟩ := reads os enc
  refine returnsInHanded_of_row (C := Tryd.checked) (s := OpenSpec.ofChange Rows.fnExactGroupPlanSpec) own started (by kernel_rfl) Tryd.func3
    (witness_row_at (enc := enc) (C := Tryd.checked) false (laidWorld os) #[.slice none 0 0, .slice none 0 0] rfl (by kernel_rfl) (by kernel_rfl) (by kernel_rfl)
      (OpenSpec.preRow_of_cond 8 hx (by kernel_rfl) (fun k hk => by cases hk) (by kernel_rfl) (laid_met os))) ?_
  intro W base args ds gs before hval hW _ _ _ hL _ _
  exact contract H enc W base args ds gs before hval hW hL
theorem facts : joinedFacts Tryd.pinned.checked.prog 3 Tryd.f3 (OpenSpec.ofChange Rows.fnExactGroupPlanSpec).bare Rows.fnExactGroupPlanRow = true := by
  have hm : (Tryd.pinned.checked.prog.make == some (Rows.fnExactGroupPlanRow).make) = true := fx.mk
  unfold joinedFacts
  rw [fx.mayE, fx.lifts, hm]
  refine Eq.trans ?_ (rfl : true = true)
  kernel_rfl
theorem said : Rows.FnExactGroupPlanSaid :=
  OpenClaim.holds_of_cond 3 Tryd.f3 rfl rfl rfl rfl rfl rfl rfl ⟨rfl, rfl, rfl, rfl, rfl⟩ rfl rfl rfl rfl rfl (by kernel_rfl) Tryd.func3 facts
    (of_decide_eq_true (by kernel_rfl)) (by unfold Func.isWrapper; first | (rw [if_pos (by decide +kernel)]; kernel_rfl) | (rw [if_neg (by decide +kernel)]; exact ⟨rfl, rfl⟩))
    (fun os started H enc _ F => by rw [OpenClaim.pre_eq_preRow]; exact lifted os started H enc F)
theorem plain (f : FuncId) (fn : Func) (hf : Tryd.pinned.checked.prog.funcNamed "loop.example/checksinorder/laws.FnExactGroupPlan" = some f) (hfn : Tryd.pinned.checked.prog.funcs[f]? = some fn) :
    false = Tryd.pinned.checked.prog.looks [] ∧ ∀ (j : Nat) t, fn.params[j]? = some t → Tryd.pinned.checked.prog.wantsStandIn t = false := by
  obtain rfl : f = 3 := Option.some.inj ((show Tryd.prog.funcNamed "loop.example/checksinorder/laws.FnExactGroupPlan" = some 3 by kernel_rfl).symm.trans hf) |>.symm
  obtain rfl : fn = Tryd.f3 := (Option.some.inj (Tryd.func3.symm.trans hfn)).symm
  refine ⟨by kernel_rfl, fun j t ht => ?_⟩
  rw [Tryd.params3] at ht
  have hm : t ∈ [22, 23] := by
    have := Array.mem_of_getElem? ht
    simpa using this
  simp only [List.mem_cons, List.not_mem_nil, or_false] at hm
  rcases hm with rfl | rfl
  · exact (show Tryd.prog.wantsStandIn 22 = false by kernel_rfl)
  · exact (show Tryd.prog.wantsStandIn 23 = false by kernel_rfl)
theorem proved : Rows.FnExactGroupPlanCardSaid :=
  Claim7.holds_tied_plain_at .later [] _ _ _ _ said (fun _ h => by cases h) (by kernel_rfl) (fun _ h => by cases h) fnExactGroupPlan_row_tie rfl ⟨rfl, rfl⟩ fx.mainI rfl plain (by kernel_rfl)
#print axioms proved
end Go.Proofs.YtffghabijlfpeaaDoor.fnExactGroupPlan
