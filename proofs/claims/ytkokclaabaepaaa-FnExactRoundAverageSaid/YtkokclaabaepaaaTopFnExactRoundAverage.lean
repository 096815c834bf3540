/- The law FnExactRoundAverage: at every input it answers true. No conditions. -/
import Derived.Test.YtkokclaabaepaaaEAzd
import Derived.Test.YtkokclaabaepaaaOkszd
import Derived.Test.YtkokclaabaepaaaRows
import Derived.Test.YtkokclaabaepaaaLgD
import Derived.Test.YtkokclaabaepaaaLgEzd
import Derived.WalkKit
import Derived.ProofKit
import Derived.OpenShut
import Derived.ShutString
import Derived.ChangeOld
import Derived.Below
import Derived.Deep.Slices
import Derived.Deep.Fields
import Derived.ChangeSame
set_option linter.unusedSectionVars false
set_option linter.unusedVariables false
set_option linter.unusedSimpArgs false
namespace Go.Proofs.Ytkokclaabaepaaa.fnExactRoundAverage
open Go.Lg Zz
open Go.ChangeShapes Go.WideShapes Go.ChangeAt Go.RowKit
open Go.ChangeMaps (open_string shut_string)
set_option linter.unusedVariables false
set_option linter.unusedSimpArgs false

theorem own : ownKnob Try.prog.godebug = none := by kernel_rfl
theorem laidOut : laidOutB Try.prog = true := by kernel_rfl
theorem walk (v0 : Value) (x0 : List (Int × Int)) (v1 : Value) (x1 : List (List Int)) (a2 : Int) (w : World) (w0 : CR w w.heap.size (okb (fun _ => True) w.heap.size fun _ => none) (rs2 x0) v0 ∧ x0.length ≤ maxLen) (w1 : CR w w.heap.size (okb (fun _ => True) w.heap.size fun _ => none) (rss x1) v1 ∧ x1.length ≤ maxLen ∧ ∀ r ∈ x1, r.length ≤ maxLen) (w2 : (Lit.int .i64 a2).wf = true) : Calls Try.prog 8 #[v0, v1, .int .i64 a2] w fun e w' => e = .returned (.bool true) ∧ Below w.heap.size w w' := by
  refine law_calls (oks.said (Zz.law_FnExactRoundAverage x0 w0.2 x1 w1.2 a2 (int_fit w2))) (entry_top (fun r hr => by cases hr) rfl (by simp [bys, ins, rs2, rs3, rss, refW]) (fun j d v hd hv => ?_))
  match j, hd, hv with
  | 0, hd, hv => simp at hd hv; subst hd; subst hv; exact .cr _ _ w0.1
  | 1, hd, hv => simp at hd hv; subst hd; subst hv; exact .cr _ _ w1.1
  | 2, hd, hv => simp at hd hv; subst hd; subst hv; exact .cr _ _ (.i _)
  | j + 3, hd, hv => simp at hd

set_option maxRecDepth 100000 in
theorem lifted (os : Os) (started : os.Started) (H : Type) (enc : TypeId × Value → H) :
    ReturnsInHanded {} Try.checked os 8 .any (Rows.fnExactRoundAverageSpec.pre6 enc Try.prog Try.f8 Rows.fnExactRoundAverageRow.domain false) (Rows.fnExactRoundAverageSpec.post enc Try.prog Try.f8 false true false false) := by
  refine returnsInHanded_of_change (C := Try.checked) own started (by kernel_rfl) Try.func8
    (ChangeSpec.witness6 (enc := enc) (C := Try.checked) false ⟨#[], #[.slice none 0 0, .slice none 0 0, .int .i64 0], []⟩ 8 (by kernel_rfl) (by kernel_rfl) (by kernel_rfl) (by kernel_rfl)) ?_
  intro W base args ds gs before hval0 hW hcnd _
  have hval : ∀ (j : Nat) t v, Try.f8.params[j]? = some t → args[j]? = some v → Value.okWide Try.prog W .any base t v := hval0
  have hW' := hW
  obtain ⟨p, q, hA0, hV, rfl, hfz, hnd⟩ := hW
  have hA : DataW.TrodAll enc Try.prog W 0 (fun _ => true) true Try.f8.params.toList args.toList ds p := hA0
  rw [Try.params8] at hA hval
  obtain ⟨v0, vs0, d0, ds0, p0, q0, hargs, rfl, rfl, h0, r0⟩ := trodAll_cons hA
  obtain ⟨v1, vs1, d1, ds1, p1, q1, rfl, rfl, rfl, h1, r1⟩ := trodAll_cons r0
  obtain ⟨v2, vs2, d2, ds2, p2, q2, rfl, rfl, rfl, h2, r2⟩ := trodAll_cons r1
  obtain ⟨rfl, rfl, rfl⟩ := trodAll_nil r2
  obtain rfl : args = #[v0, v1, v2] := by cases args; simp_all
  obtain ⟨rfl, rfl⟩ := trodVars_none hV
  have k0 := h0
  have lt0 : ∀ x ∈ p0, x.block < W.heap.size := by obtain ⟨m, hm⟩ := k0; exact DataW.trod_lt m _ _ _ hm
  obtain ⟨x0, w0⟩ := open_rs2 Try.underlying47 Try.underlying98 (by kernel_rfl) (by kernel_rfl) Try.underlying3 Try.underlying3 (hval 0 47 v0 rfl rfl) h0
  have k1 := h1
  have lt1 : ∀ x ∈ p1, x.block < W.heap.size := by obtain ⟨m, hm⟩ := k1; exact DataW.trod_lt m _ _ _ hm
  obtain ⟨x1, w1⟩ := open_rss Try.underlying24 Try.underlying29 Try.underlying3 (by kernel_rfl) (by kernel_rfl) (hval 1 24 v1 rfl rfl) h1
  obtain ⟨a2, rfl, rfl, rfl, w2⟩ := open_int Try.underlying3 (hval 2 3 v2 rfl rfl) h2
  clear hA0 hval0
  refine (walk v0 x0 v1 x1 a2 W w0 w1 w2).mono fun e W' ⟨he, bel⟩ => ?_
  subst he
  exact ⟨_, rfl, _, _, _, [], _, [], hW', trodAll_mk1 (shut_bool Try.underlying4 _), (trodAll_cons_mk (Below.trod laidOut (by kernel_rfl) (of_decide_eq_true (by kernel_rfl)) k0 bel lt0) (trodAll_cons_mk (Below.trod laidOut (by kernel_rfl) (of_decide_eq_true (by kernel_rfl)) k1 bel lt1) (trodAll_cons_mk (shut_int Try.underlying3 w2) trodAll_mk0))), rfl, bel.frame _, fun h => by cases h⟩

theorem over : Rows.fnExactRoundAverageRow.holds Try.pinned (OpenSpec.ofChange Rows.fnExactRoundAverageSpec) :=
  OpenClaim.holds_of_wide 8 Try.f8 rfl rfl rfl rfl rfl rfl rfl ⟨rfl, rfl, rfl, rfl, rfl⟩ rfl rfl rfl rfl rfl (by kernel_rfl) Try.func8 (by kernel_rfl)
    (of_decide_eq_true (by kernel_rfl)) (by unfold Func.isWrapper; first | (rw [if_pos (by decide +kernel)]; kernel_rfl) | (rw [if_neg (by decide +kernel)]; exact ⟨rfl, rfl⟩))
    (fun os started H enc _ => lifted os started H enc)

theorem proved : Rows.FnExactRoundAverageSaid :=
  over
#print axioms proved
end Go.Proofs.Ytkokclaabaepaaa.fnExactRoundAverage
