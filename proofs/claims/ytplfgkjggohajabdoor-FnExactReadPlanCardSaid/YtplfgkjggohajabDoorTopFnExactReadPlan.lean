/- The law FnExactReadPlan: at every input it answers true, the one listed table tied to the text of the program. No other conditions. -/
import Derived.Test.YtplfgkjggohajabDoorEBzw
import Derived.Test.YtplfgkjggohajabDoorOkszw
import Derived.Test.YtplfgkjggohajabDoorFx
import Derived.Test.YtplfgkjggohajabDoorCards
import Derived.Test.YtplfgkjggohajabDoorTie
import Derived.Test.YtplfgkjggohajabDoorLgD
import Derived.Test.YtplfgkjggohajabDoorLgEzw
import Derived.WalkKit
import Derived.ProofKit
import Derived.OpenShut
import Derived.ShutString
import Derived.ChangeOld
import Derived.Below
import Derived.Deep.Slices
import Derived.Deep.Fields
import Derived.ChangeSame
import Derived.Deep.DeepHandedRow
import Derived.Lib.LaidTab
import Derived.OpenVars
set_option linter.unusedSectionVars false
set_option linter.unusedVariables false
set_option linter.unusedSimpArgs false
namespace Go.Proofs.YtplfgkjggohajabDoor.fnExactReadPlan
open Go.Lg Zz
open Go.ChangeShapes Go.WideShapes Go.ChangeAt Go.RowKit
open Go.ChangeMaps (open_string shut_string)
set_option linter.unusedVariables false
set_option linter.unusedSimpArgs false

theorem own : ownKnob Tryd.prog.godebug = none := by kernel_rfl
theorem laidOut : laidOutB Tryd.prog = true := by kernel_rfl
theorem gTab : Tryd.prog.globalNamed "loop.example/checksinorder/impl.yesStates" = some 0 := by kernel_rfl
theorem gTabType : (Tryd.prog.globals[0]?).map (·.type) = some 166 := by kernel_rfl
theorem cellsA : Tryd.prog.cellsOf 166 = 5 := by kernel_rfl
theorem cellsE : Tryd.prog.cellsOf 74 = 1 := by kernel_rfl
theorem table {W : World} (h : laidMetH Tryd.prog Rows.fnExactReadPlanRow.laid W) : Lib.TabIs Tryd.prog W "loop.example/checksinorder/impl.yesStates" .u32 [2863311530, 3435973836, 4042322160, 4278255360, 4294901760] :=
  Lib.tabIs_of_head (rest := []) gTab gTabType Tryd.underlying166 Tryd.underlying74 cellsE cellsA h
theorem globs {W : World} (h : Lib.TabIs Tryd.prog W "loop.example/checksinorder/impl.yesStates" .u32 [2863311530, 3435973836, 4042322160, 4278255360, 4294901760]) : GlobC ⟨W, fun _ => True, []⟩ := by
  intro r hr
  have hr' : r = (0, DV.st [.w (2863311530#32), .w (3435973836#32), .w (4042322160#32), .w (4278255360#32), .w (4294901760#32)]) := List.mem_singleton.1 hr
  subst hr'
  have c := fun i hi => h.cell gTab i hi
  have c0 := c 0 (by decide)
  have hlt : 0 < W.heap.size := by
    unfold World.cell? at c0
    by_cases hb : 0 < W.heap.size
    · exact hb
    · rw [Array.getElem?_eq_none (by simpa using hb)] at c0
      cases c0
  refine ⟨hlt, trivial, fun q hq => (by cases hq), [.int .u32 2863311530, .int .u32 3435973836, .int .u32 4042322160, .int .u32 4278255360, .int .u32 4294901760], fun j u hu => ?_, fun w B ok => ⟨rfl, fun j c u hc hu => ?_⟩⟩
  · rw [add_plain', Nat.zero_add]
    match j, hu with
    | 0, hu => simp at hu; subst hu; exact c 0 (by decide)
    | 1, hu => simp at hu; subst hu; exact c 1 (by decide)
    | 2, hu => simp at hu; subst hu; exact c 2 (by decide)
    | 3, hu => simp at hu; subst hu; exact c 3 (by decide)
    | 4, hu => simp at hu; subst hu; exact c 4 (by decide)
    | j + 5, hu => simp at hu
  · match j, hc, hu with
    | 0, hc, hu => simp [DV.cells] at hc hu; subst hc; subst hu; exact .w (2863311530#32)
    | 1, hc, hu => simp [DV.cells] at hc hu; subst hc; subst hu; exact .w (3435973836#32)
    | 2, hc, hu => simp [DV.cells] at hc hu; subst hc; subst hu; exact .w (4042322160#32)
    | 3, hc, hu => simp [DV.cells] at hc hu; subst hc; subst hu; exact .w (4278255360#32)
    | 4, hc, hu => simp [DV.cells] at hc hu; subst hc; subst hu; exact .w (4294901760#32)
    | j + 5, hc, hu => simp [DV.cells] at hc
theorem walk (a0 : Int) (v1 : Value) (x1 : List (Int × Int)) (a2 : ByteArray) (w : World) (hT : Lib.TabIs Tryd.prog w "loop.example/checksinorder/impl.yesStates" .u32 [2863311530, 3435973836, 4042322160, 4278255360, 4294901760]) (w0 : (Lit.int .i64 a0).wf = true) (w1 : CR w w.heap.size (okb (fun _ => True) w.heap.size fun _ => none) (rs2 x1) v1 ∧ x1.length ≤ maxLen) (w2 : a2.size ≤ maxLen) : Calls Tryd.prog 9 #[.int .i64 a0, v1, .string a2] w fun e w' => e = .returned (.bool true) ∧ Below w.heap.size w w' := by
  refine law_calls (oks.said (Zz.law_FnExactReadPlan a0 (int_fit w0) x1 w1.2 a2.data.toList)) (entry_top (globs hT) rfl (by simp [bys, ins, rs2, rs3, rss, refW]) (fun j d v hd hv => ?_))
  match j, hd, hv with
  | 0, hd, hv => simp at hd hv; subst hd; subst hv; exact .cr _ _ (.i _)
  | 1, hd, hv => simp at hd hv; subst hd; subst hv; exact .cr _ _ w1.1
  | 2, hd, hv => simp at hd hv; subst hd; subst hv; exact .cr _ _ (cr_str _)
  | j + 3, hd, hv => simp at hd

set_option maxRecDepth 100000 in
theorem contract (H : Type) (enc : TypeId × Value → H) (W : World) (base : Nat) (args : Array Value) (ds gs : List (DataW H)) (before : List MemPlace)
    (hval : ∀ (j : Nat) t v, Tryd.f9.params[j]? = some t → args[j]? = some v → Value.okWide Tryd.prog W .any base t v)
    (hW : DataW.Whole enc Tryd.prog Tryd.f9.params.toList Rows.fnExactReadPlanSpec.vars false W args.toList ds gs before) (hL : laidMetH Tryd.prog Rows.fnExactReadPlanRow.laid W) :
    Calls Tryd.prog 9 args W fun e W' => ∃ v, e = .returned v ∧ Rows.fnExactReadPlanSpec.post enc Tryd.prog Tryd.f9 false true false false W args v W' := by
  have hT := table hL
  have hW' := hW
  obtain ⟨p, q, hA0, hV, rfl, hfz, hnd⟩ := hW
  have hA : DataW.TrodAll enc Tryd.prog W 0 (fun _ => true) true Tryd.f9.params.toList args.toList ds p := hA0
  rw [Tryd.params9] at hA hval
  obtain ⟨v0, vs0, d0, ds0, p0, q0, hargs, rfl, rfl, h0, r0⟩ := trodAll_cons hA
  obtain ⟨v1, vs1, d1, ds1, p1, q1, rfl, rfl, rfl, h1, r1⟩ := trodAll_cons r0
  obtain ⟨v2, vs2, d2, ds2, p2, q2, rfl, rfl, rfl, h2, r2⟩ := trodAll_cons r1
  obtain ⟨rfl, rfl, rfl⟩ := trodAll_nil r2
  obtain rfl : args = #[v0, v1, v2] := by cases args; simp_all
  obtain ⟨g1, hg1⟩ : ∃ g1, gs = [g1] := by
    obtain ⟨g, t, cs, fuel, d, p, rfl, _⟩ := trodVars_one hV
    exact ⟨_, rfl⟩
  subst hg1
  obtain ⟨a0, rfl, rfl, rfl, w0⟩ := open_int Tryd.underlying3 (hval 0 3 v0 rfl rfl) h0
  have k1 := h1
  have lt1 : ∀ x ∈ p1, x.block < W.heap.size := by obtain ⟨m, hm⟩ := k1; exact DataW.trod_lt m _ _ _ hm
  obtain ⟨x1, w1⟩ := open_rs2 Tryd.underlying53 Tryd.underlying108 (by kernel_rfl) (by kernel_rfl) Tryd.underlying3 Tryd.underlying3 (hval 1 53 v1 rfl rfl) h1
  obtain ⟨a2, rfl, rfl, rfl, w2⟩ := open_string Tryd.underlying9 (hval 2 9 v2 rfl rfl) h2
  clear hA0
  refine (walk a0 v1 x1 a2 W hT w0 w1 w2).mono fun e W' ⟨he, bel⟩ => ?_
  subst he
  exact ⟨_, rfl, _, _, _, [], _, _, hW', trodAll_mk1 (shut_bool Tryd.underlying4 _), (trodAll_cons_mk (shut_int Tryd.underlying3 w0) (trodAll_cons_mk (Below.trod laidOut (by kernel_rfl) (of_decide_eq_true (by kernel_rfl)) k1 bel lt1) (trodAll_cons_mk (shut_string Tryd.underlying9 w2) trodAll_mk0))), bel.trodVars laidOut (by kernel_rfl) hV, bel.frame _, fun h => by cases h⟩

noncomputable def laidWorld (os : Os) : World :=
  { World.holding Tryd.prog os ⟨#[], #[], []⟩ with heap := (World.holding Tryd.prog os ⟨#[], #[], []⟩).heap.modify 0 fun
      | .cells _ t frozen => .cells #[.int .u32 2863311530, .int .u32 3435973836, .int .u32 4042322160, .int .u32 4278255360, .int .u32 4294901760] t frozen
      | o => o }
theorem laid_met (os : Os) : laidMet Tryd.prog Rows.fnExactReadPlanRow.laid ((laidWorld os).forCall (fun _ _ => 0) ⟨#[], #[.int .i64 0, .slice none 0 0, .string ⟨#[]⟩], []⟩).memory :=
  laidMet_of_run' 8 (by kernel_rfl) (by kernel_rfl)
theorem reads (os : Os) {H : Type} (enc : TypeId × Value → H) : ∃ places, DataW.whole enc Tryd.prog ((laidWorld os).forCall (fun _ _ => 0) ⟨#[], #[.int .i64 0, .slice none 0 0, .string ⟨#[]⟩], []⟩).memory Tryd.f9.params.toList Rows.fnExactReadPlanSpec.vars false (#[.int .i64 0, .slice none 0 0, .string ⟨#[]⟩] : Array Value).toList 8 = some ([.lit (.int .i64 0), .nil, .lit (.string [])], [Rows.laid_loop_example_checksinorder_impl_yesStates], places) :=
  ⟨MemPlace.row ⟨0, 0, none⟩ 5, by kernel_rfl⟩
set_option maxRecDepth 100000 in
theorem lifted (os : Os) (started : os.Started) (H : Type) (enc : TypeId × Value → H) (F : Stop.Interp) :
    ReturnsInHanded {} Tryd.checked os 9 .any ((OpenSpec.ofChange Rows.fnExactReadPlanSpec).preRow enc Tryd.prog Tryd.f9 Rows.fnExactReadPlanRow.domain false Rows.fnExactReadPlanRow.laid) (((OpenSpec.ofChange Rows.fnExactReadPlanSpec).at F).post enc Tryd.prog Tryd.f9 false true false false) := by
  obtain ⟨places, hx⟩ := reads os enc
  refine returnsInHanded_of_row (C := Tryd.checked) (s := OpenSpec.ofChange Rows.fnExactReadPlanSpec) own started (by kernel_rfl) Tryd.func9
    (witness_row_at (enc := enc) (C := Tryd.checked) false (laidWorld os) #[.int .i64 0, .slice none 0 0, .string ⟨#[]⟩] rfl (by kernel_rfl) (by kernel_rfl) (by kernel_rfl)
      (OpenSpec.preRow_of_cond 8 hx (by kernel_rfl) (fun k hk => by cases hk) (by kernel_rfl) (laid_met os))) ?_
  intro W base args ds gs before hval hW _ _ _ hL _ _
  exact contract H enc W base args ds gs before hval hW hL
theorem facts : joinedFacts Tryd.pinned.checked.prog 9 Tryd.f9 (OpenSpec.ofChange Rows.fnExactReadPlanSpec).bare Rows.fnExactReadPlanRow = true := by
  have hm : (Tryd.pinned.checked.prog.make == some (Rows.fnExactReadPlanRow).make) = true := fx.mk
  unfold joinedFacts
  rw [fx.mayE, fx.lifts, hm]
  refine Eq.trans ?_ (rfl : true = true)
  kernel_rfl
theorem said : Rows.FnExactReadPlanSaid :=
  OpenClaim.holds_of_cond 9 Tryd.f9 rfl rfl rfl rfl rfl rfl rfl ⟨rfl, rfl, rfl, rfl, rfl⟩ rfl rfl rfl rfl rfl (by kernel_rfl) Tryd.func9 facts
    (of_decide_eq_true (by kernel_rfl)) (by unfold Func.isWrapper; first | (rw [if_pos (by decide +kernel)]; kernel_rfl) | (rw [if_neg (by decide +kernel)]; exact ⟨rfl, rfl⟩))
    (fun os started H enc _ F => by rw [OpenClaim.pre_eq_preRow]; exact lifted os started H enc F)
theorem plain (f : FuncId) (fn : Func) (hf : Tryd.pinned.checked.prog.funcNamed "loop.example/checksinorder/laws.FnExactReadPlan" = some f) (hfn : Tryd.pinned.checked.prog.funcs[f]? = some fn) :
    false = Tryd.pinned.checked.prog.looks [] ∧ ∀ (j : Nat) t, fn.params[j]? = some t → Tryd.pinned.checked.prog.wantsStandIn t = false := by
  obtain rfl : f = 9 := Option.some.inj ((show Tryd.prog.funcNamed "loop.example/checksinorder/laws.FnExactReadPlan" = some 9 by kernel_rfl).symm.trans hf) |>.symm
  obtain rfl : fn = Tryd.f9 := (Option.some.inj (Tryd.func9.symm.trans hfn)).symm
  refine ⟨by kernel_rfl, fun j t ht => ?_⟩
  rw [Tryd.params9] at ht
  have hm : t ∈ [3, 53, 9] := by
    have := Array.mem_of_getElem? ht
    simpa using this
  simp only [List.mem_cons, List.not_mem_nil, or_false] at hm
  rcases hm with rfl | rfl | rfl
  · exact (show Tryd.prog.wantsStandIn 3 = false by kernel_rfl)
  · exact (show Tryd.prog.wantsStandIn 53 = false by kernel_rfl)
  · exact (show Tryd.prog.wantsStandIn 9 = false by kernel_rfl)
theorem proved : Rows.FnExactReadPlanCardSaid :=
  Claim7.holds_tied_plain_at .later [] _ _ _ _ said (fun _ h => by cases h) (by kernel_rfl) (fun _ h => by cases h) fnExactReadPlan_row_tie rfl ⟨rfl, rfl⟩ fx.mainI rfl plain (by kernel_rfl)
#print axioms proved
end Go.Proofs.YtplfgkjggohajabDoor.fnExactReadPlan
