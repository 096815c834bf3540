/- Part E of a logical reading of translated Go: what a frame holds is said by lists, and each operation is proved against the model. No conditions. -/
import Derived.Test.YtplfgkjggohajabLgD
set_option linter.unusedSectionVars false
set_option linter.unusedVariables false
set_option linter.unusedSimpArgs false
namespace Go.Lg
open Go.RowKit
variable [GL]
set_option linter.unusedVariables false
set_option linter.unusedSimpArgs false
theorem viewOps_cons {P : Program} {ops : Array Oper} {os : List Oper} {l : LOp} {ls : List LOp} (h : viewOps P ops os = some (l :: ls)) : ∃ o os',os = o :: os' ∧ viewOp P ops o = some l ∧ viewOps P ops os' = some ls := by
 cases os with
 | nil => simp [viewOps] at h
 | cons o os =>
  simp only [viewOps] at h
  split at h
  ·rename_i l' hl
   split at h
   ·rename_i ls' hls
    injection h with h
    injection h with h1 h2
    subst h1; subst h2
    exact ⟨o,os,rfl,hl,hls⟩
   ·cases h
  ·cases h
theorem viewOps_nil {P : Program} {ops : Array Oper} {os : List Oper} (h : viewOps P ops os = some []) : os = [] := by
 cases os with
 | nil => rfl
 | cons o os =>
  simp only [viewOps] at h
  split at h
  ·split at h
   ·cases h
   ·cases h
  ·cases h
section
variable {P : Program} {c : Cx}

/-- One operation that makes nothing. -/
theorem opQ_ok (hF : ∀ r ∈ c.refs,6 ≤ r.1 % 8) {r : Option Nat} {m N : Nat} {ops : Array Oper} {Q : Exit → Act → World → Prop} {post : List Oper} {o : Oper} {d : Option Nat} {k : K} {ags : List Opd} (hv : viewOp P ops o = some ⟨d,k,ags,none⟩)
  (hN : Opx o.dst N = true) {e : Env} {ob ob1 : OB} {O : OM} {a : Act} {w : World} {v : DV} (hsz : a.tmps.size = N) (hm : MR c O ob w) (hsr : SR w c.B (okb c.ok0 c.B O) O e a) (he : effP (fun _ => false) k (ags.map (LS.get ⟨e,ob⟩)) ob = some (v,ob1))
  (hQ : ∀ w' O' u,MR c O' ob1 w' → VR w' c.B (okb c.ok0 c.B O') O' v u → SR w' c.B (okb c.ok0 c.B O') O' (putD e d v) (a.put d u) → Tr c.ok0 c.B (fun _ => False) w O w' O' → wpListIn (Wd r) m P ops Q post (a.put d u) w') :
  wpListIn (Wd r) m P ops Q (o :: post) a w := by
 unfold viewOp at hv
 split at hv
 ·rename_i k' xs hk
  split at hv
  ·rename_i ys hys
   split at hv
   ·rename_i hg
    injection hv with hv
    injection hv with h1 h2 h3 _
    subst h1; subst h2; subst h3
    refine wpListIn_plain hg fun K hK => ⟨fun _ _ => trivial,?_⟩
    rw [Oper.semAt_eq _ _ _ (viewK_nd hk)]
    obtain ⟨u,w',O',hr,hm',hv',ht⟩ := effP_ok hm (⟨fun id h => (by cases h),hF⟩ : Fresh c fun _ => false) hk (Args.of_view (S := ⟨e,ob⟩) hsr hys) he
    have ht' : Tr c.ok0 c.B (fun _ => False) w O w' O' := ht.mono fun _ h => by cases h
    have hdst : ∀ x,o.dst = some x → x < a.tmps.size ∧ x < 1048576 := fun x hx => by rw [hx] at hN; rw [hsz]; simpa [Opx] using hN
    have hsr' : SR w' c.B (okb c.ok0 c.B O') O' e a := fun t => (hsr t).tr ht' (fun _ h => h.elim)
    have fin := hQ w' O' u hm' hv' (hsr'.put hv' hdst) ht'
    rcases hr with hr | ⟨hr,rfl⟩
    ·rw [hr]; exact hK _ _ fin
    ·rw [hr]; exact hK _ _ fin
   ·split at hv <;> cases hv
  ·cases hv
 ·cases hv
theorem Tr.trans0 {ok0 : Nat → Prop} {B : Nat} {w w1 w2 : World} {O O1 O2 : OM} (h : Tr ok0 B (fun _ => False) w O w1 O1) (k : Tr ok0 B (fun _ => False) w1 O1 w2 O2) : Tr ok0 B (fun _ => False) w O w2 O2 :=
 (h.trans k).mono fun _ h => h.elim _root_.id _root_.id

theorem runQ_ok (hF : ∀ r ∈ c.refs,6 ≤ r.1 % 8) {r : Option Nat} {m N : Nat} {ops : Array Oper} {Q : Exit → Act → World → Prop} {post : List Oper} : ∀ {pre : List Oper} {ls : List LOp} {e e' : Env} {ob ob' : OB} {O : OM} {a : Act} {w : World},
  viewOps P ops pre = some ls → (∀ o ∈ pre,Opx o.dst N = true) → a.tmps.size = N → MR c O ob w → SR w c.B (okb c.ok0 c.B O) O e a → runQ ls e ob = some (e',ob') →
  (∀ a' w' O',MR c O' ob' w' → SR w' c.B (okb c.ok0 c.B O') O' e' a' → Tr c.ok0 c.B (fun _ => False) w O w' O' → a'.defers = a.defers → a'.tmps.size = N → (∀ t,(∀ l ∈ ls,l.dst ≠ some t) → a'.tmps.getD t undef = a.tmps.getD t undef) → wpListIn (Wd r) m P ops Q post a' w') →
  wpListIn (Wd r) m P ops Q (pre ++ post) a w
 | pre,[],e,e',ob,ob',O,a,w,hv,hN,hsz,hm,hsr,he,hQ => by
  have := viewOps_nil hv
  subst this
  simp only [runQ,Option.some.injEq,Prod.mk.injEq] at he
  obtain ⟨rfl,rfl⟩ := he
  exact hQ a w O hm hsr (Tr.refl _ _ _ _ _) rfl hsz (fun _ _ => rfl)
 | pre,⟨d,k,ags,some g⟩ :: ls,e,e',ob,ob',O,a,w,hv,hN,hsz,hm,hsr,he,hQ => by
  simp only [runQ] at he
  cases he
 | pre,⟨d,k,ags,none⟩ :: ls,e,e',ob,ob',O,a,w,hv,hN,hsz,hm,hsr,he,hQ => by
  obtain ⟨o,os,rfl,hv1,hv2⟩ := viewOps_cons hv
  simp only [runQ] at he
  split at he
  ·rename_i v ob1 he1
   refine opQ_ok hF hv1 (hN o (List.mem_cons_self ..)) hsz hm hsr he1 (fun w1 O1 u hm1 hv1' hsr1 ht1 => ?_)
   have hd : o.dst = d := by
    unfold viewOp at hv1
    split at hv1
    ·split at hv1
     ·split at hv1
      ·injection hv1 with h; injection h
      ·split at hv1 <;> cases hv1
     ·cases hv1
    ·cases hv1
   refine runQ_ok hF hv2 (fun x hx => hN x (List.mem_cons_of_mem _ hx)) (by rw [put_size]; exact hsz) hm1 hsr1 he (fun a' w' O' h1 h2 h3 h4 h5 h6 => hQ a' w' O' h1 h2 (ht1.trans0 h3) (by rw [h4,put_defers]) h5 (fun t ht => ?_))
   rw [h6 t (fun l hl => ht l (List.mem_cons_of_mem _ hl))]
   have hdt : d ≠ some t := ht _ (List.mem_cons_self ..)
   cases d with
   | none => rfl
   | some x =>
    have hx : x < a.tmps.size := by
     have := hN o (List.mem_cons_self ..)
     rw [hd] at this
     rw [hsz]
     simp only [Opx,Bool.and_eq_true,decide_eq_true_eq] at this
     exact this.1
    rw [getD_put a x t u hx,if_neg (fun e => hdt (by rw [e]))]
  ·cases he

theorem look_reslot (E : Env) : ∀ (ss : List Nat) (j t : Nat),look (reslot ss j E) t = .dead ∨ ∃ n,ss[n]? = some t ∧ look (reslot ss j E) t = look E (j + n)
 | [],j,t => .inl rfl
 | s :: ss,j,t => by
  simp only [reslot,look]
  by_cases h : s = t
  ·rw [if_pos h]
   exact .inr ⟨0,by simp [h],rfl⟩
  ·rw [if_neg h]
   rcases look_reslot E ss (j + 1) t with h1 | ⟨n,h1,h2⟩
   ·exact .inl h1
   ·exact .inr ⟨n + 1,by simpa using h1,by rw [h2]; congr 1; omega⟩

theorem MR.ext {O : OM} {ob : OB} {w w' : World} (hm : MR c O ob w) (hh : ∀ b,b < w.heap.size → w'.heap[b]? = w.heap[b]?) (hs : w.heap.size ≤ w'.heap.size) (h1 : w'.os = w.os) (h2 : w'.tape = w.tape) (h3 : w'.output = w.output) :
  MR c O ob w' ∧ Tr c.ok0 c.B (fun _ => False) w O w' O := by
 have ht : Tr c.ok0 c.B (fun _ => False) w O w' O := ⟨hs,fun b _ hb => hh b hb,fun _ h _ => h,fun _ _ _ h => .inl h,fun _ p _ h => ⟨p,h,.inl rfl⟩⟩
 refine ⟨⟨h1.trans hm.os,h2.trans hm.tape,h3.trans hm.output,Nat.le_trans hm.size hs,fun b hb hr => ?_,hm.dom,fun k p es hk he => (hm.obj k p es hk he).tr ht (fun g hg => hh g (hm.lt hk hg)),hm.inj,hm.base,hm.sz,hm.refs,hm.glob⟩,ht⟩
 rw [hh b (Nat.lt_of_lt_of_le hb hm.size)]
 exact hm.frame b hb hr

/-- From before a round to behind it: the record is ags it was. -/
theorem Tr.round {w wa w2 : World} {O Oa O2 : OM} {l : Nat} {o o1 : Obj} (hl : w.heap[l]? = some o) (t1 : Tr c.ok0 c.B (fun _ => False) w O wa Oa) (t2 : Tr c.ok0 c.B (fun _ => False) (wa.putObj l o1) Oa w2 O2) : Tr c.ok0 c.B (fun _ => False) w O (w2.putObj l o) O2 := by
 have hlt : l < w.heap.size := (Array.getElem?_eq_some_iff.1 hl).1
 have s2 : wa.heap.size ≤ w2.heap.size := by have := t2.size; rwa [World.putObj_size] at this
 refine ⟨by rw [World.putObj_size]; exact Nat.le_trans t1.size s2,fun b hb hlt' => ?_,fun b hb hlt' => t2.ok b (t1.ok b hb hlt') (by rw [World.putObj_size]; exact Nat.lt_of_lt_of_le hlt' t1.size),fun k p' _ hp => ?_,fun k p h5 hp => ?_⟩
 ·by_cases e : b = l
  ·subst e
   rw [World.putObj_heap_same (Nat.lt_of_lt_of_le hlt (Nat.le_trans t1.size s2)),hl]
  ·rw [World.putObj_heap_other e,t2.heap b (t1.ok b hb hlt') (by rw [World.putObj_size]; exact Nat.lt_of_lt_of_le hlt' t1.size),World.putObj_heap_other e,t1.heap b hb hlt']
 ·rcases t2.obj k p' (fun h => h) hp with h1 | ⟨p,h1,h2⟩
  ·exact t1.obj k p' (fun h => h) h1
  ·rcases t1.obj k p (fun h => h) h1 with h3 | ⟨q,h3,h4⟩
   ·exact .inr ⟨p,h3,h2⟩
   ·exact .inr ⟨q,h3,by omega⟩
 ·obtain ⟨p1,h1,h2⟩ := t1.five k p h5 hp
  obtain ⟨p2,h3,h4⟩ := t2.five k p1 h5 h1
  refine ⟨p2,h3,?_⟩
  rcases h2 with rfl | h2
  ·exact h4
  ·rcases h4 with rfl | h4
   ·exact .inr h2
   ·exact .inr (by omega)

/-- One round. -/
theorem round_ok (hF : ∀ r ∈ c.refs,6 ≤ r.1 % 8) {N m : Nat} {i x : Nat} {slots : List Nat} {ls : List LOp} {id : Nat} {ops : Array Oper} {body : Code} {f : LS → Option (Ex × LS)} (hi : i < N ∧ i < 1048576) (hx : x < N ∧ x < 1048576) (hN : ∀ o ∈ ops.toList,Opx o.dst N = true)
  (hls : viewOps P ops ops.toList = some ls) (hb : Snd P N body f) (hsl : ∀ s ∈ slots,s < 1048576) {O : OM} {ob : OB} {w : World} (hm : MR c O ob w) {e0 : Env} {a : Act} (hsr : SR w c.B (okb c.ok0 c.B O) O e0 a) (hsz : a.tmps.size = N) {l D fn : Nat} (hlB : c.B ≤ l)
  (hl : w.heap[l]? = some (.loop { state := .ready,pending := none,fn := fn,tmps := a.tmps,params := #[i,x],assign := .region id ops false,body := body,defers := D })) {e : DV} {v : Value} (hv : VR w c.B (okb c.ok0 c.B O) O e v) {k : Nat} {S2 : LS} (hr : roundL f i x slots ls e k ⟨e0,ob⟩ = some S2)
  {R : Ending → World → Prop} (hR : ∀ w' O',MR c O' S2.ob w' → Tr c.ok0 c.B (fun _ => False) w O w' O' → R (.returned (.bool true)) w') :
  S2.sl = e0 ∧ RoundIn (Wd none) m P l fn ((#[i,x].zip #[.int .i64 k,v]).foldl (fun t p => t.setIfInBounds p.1 p.2) a.tmps) (.region id ops false) body w R := by
 unfold roundL at hr
 split at hr
 rotate_left
 ·cases hr
 rename_i e1 ob1 hq
 split at hr
 rotate_left
 ·cases hr
 rename_i ags has
 split at hr
 rotate_left
 ·cases hr
 rename_i S1 hf
 split at hr
 rotate_left
 ·cases hr
 rename_i cs hcs
 split at hr
 rotate_left
 ·cases hr
 rename_i hcond
 split at hr
 rotate_left
 ·cases hr
 rename_i ob2 hp
 injection hr with hr
 subst hr
 refine ⟨rfl,roundIn_of_wpIn trivial ?_⟩
 obtain ⟨o,ho⟩ : ∃ o,o = Obj.loop { state := .ready,pending := none,fn := fn,tmps := a.tmps,params := #[i,x],assign := .region id ops false,body := body,defers := D } := ⟨_,rfl⟩
 obtain ⟨T0,hT0⟩ : ∃ T0,T0 = (#[i,x].zip #[Value.int .i64 k,v]).foldl (fun t (p : Nat × Value) => t.setIfInBounds p.1 p.2) a.tmps := ⟨_,rfl⟩
 have hT : T0 = ((a.put (some i) (.int .i64 k)).put (some x) v).tmps := by rw [hT0]; simp [Act.put]
 have hTs : T0.size = N := by rw [hT,put_size,put_size]; exact hsz
 have hsr0 : SR w c.B (okb c.ok0 c.B O) O (put (put e0 i (.i k)) x e) { tmps := T0,defers := [] } := by
  have h1 := (hsr.put (d := some i) (dv := .i k) (v := .int .i64 k) (VR.mkI k) (fun y hy => by injection hy with hy; subst hy; rw [hsz]; exact hi)).put (d := some x) hv (fun y hy => by injection hy with hy; subst hy; rw [put_size,hsz]; exact hx)
  intro t
  have h2 := h1 t
  have e3 : tval ({ tmps := T0,defers := [] } : Act) t = tval ((a.put (some i) (.int .i64 k)).put (some x) v) t := by
   unfold tval
   rw [hT]
  rw [e3]
  exact h2
 rw [← hT0]
 show (Code.region id ops false).wpIn (Wd (some l)) m P _ _ w
 refine wpIn_region_list ?_
 have ea : ops.toList = ops.toList ++ [] := (List.append_nil _).symm
 rw [ea]
 refine runQ_ok hF (post := []) hls hN hTs hm hsr0 hq (fun a1 wa Oa hma hsra hta hda hsza _ => ?_)
 have hla : wa.heap[l]? = some (.loop { state := .ready,pending := none,fn := fn,tmps := a.tmps,params := #[i,x],assign := .region id ops false,body := body,defers := D }) := by
  obtain ⟨h1,h2⟩ := okb_no hm hlB hl rfl
  rw [hta.heap l h1 h2]; exact hl
 refine ⟨_,run_beginRound hla rfl,?_⟩
 obtain ⟨w1,hw1⟩ : ∃ w1,w1 = wa.putObj l (.loop { state := .busy,pending := none,fn := fn,tmps := a.tmps,params := #[i,x],assign := .region id ops false,body := body,defers := D }) := ⟨_,rfl⟩
 have hl1 : w1.heap[l]? = some (.loop { state := .busy,pending := none,fn := fn,tmps := a.tmps,params := #[i,x],assign := .region id ops false,body := body,defers := D }) := by
  rw [hw1]; exact World.putObj_heap_same (Array.getElem?_eq_some_iff.1 hla).1
 have hm1 : MR c Oa ob1 w1 := by rw [hw1]; exact hma.putO hla rfl rfl hlB
 have hsr1 : SR w1 c.B (okb c.ok0 c.B Oa) Oa e1 a1 := fun t => by rw [hw1]; exact (hsra t).putO hla rfl rfl
 show body.wpIn (Wd (some l)) m P (roundPost P l R) a1 (wa.putObj l _)
 rw [← hw1]
 obtain ⟨ds,hds⟩ : ∃ ds,ds = slots.map (look e1) := ⟨_,rfl⟩
 rw [← hds] at has hcond hp
 obtain ⟨vs,hvs⟩ : ∃ vs : Array Value,vs = (slots.map (fun s => a1.tmps.getD s undef)).toArray := ⟨_,rfl⟩
 have hlen : ds.length = vs.size := by rw [hds,hvs]; simp
 have hvr : ∀ (j : Nat) (d : DV) (u : Value),ds[j]? = some d → vs[j]? = some u → VR w1 c.B (okb c.ok0 c.B Oa) Oa d u := fun j d u hd hu => by
  rw [hds,List.getElem?_map,Option.map_eq_some_iff] at hd
  obtain ⟨s,hs,rfl⟩ := hd
  rw [hvs] at hu
  simp only [List.getElem?_toArray,List.getElem?_map,hs,Option.map_some,Option.some.injEq] at hu
  have h2 := hsr1 s
  rw [tval_lt _ (hsl s (List.mem_of_getElem? hs)),hu] at h2
  exact h2
 have hg : givKs ds = [] := givKs_nil fun d hd k' n' => by
  obtain ⟨j,hj⟩ := List.mem_iff_getElem?.1 hd
  have hj2 : j < vs.size := by rw [← hlen]; exact (List.getElem?_eq_some_iff.1 hj).1
  exact (hvr j d vs[j] hj (by simp [hj2])).notgiv k' n'
 rw [Bool.and_eq_true,Bool.or_eq_true] at hcond
 obtain ⟨hnew,hap⟩ := hcond
 have hE := entry_of (m := false) (oldArgs ob1 ds) (fun h => h) hm1 hlen (fun j d u hd hu => by
  have := hvr j d u hd hu
  rw [this.ung]; exact this) has hap
 have hst : St ⟨w1,ctOk false (oldArgs ob1 ds) c Oa ds,ctRefs false Oa ds⟩ N ⟨reslot slots 0 (enter 0 ags ⟨[],[]⟩).sl,(enter 0 ags ⟨[],[]⟩).ob⟩ a1 w1 := by
  refine ⟨ctO false Oa ds,hE.mem,fun t => ?_,by rw [hda]; exact Dfs.nil _ _,hsza⟩
  rcases look_reslot (enter 0 ags ⟨[],[]⟩).sl slots 0 t with h | ⟨n,h1,h2⟩
  ·show VR _ _ _ _ (look (reslot slots 0 (enter 0 ags ⟨[],[]⟩).sl) t) _
   rw [h]; exact .dead _
  ·show VR _ _ _ _ (look (reslot slots 0 (enter 0 ags ⟨[],[]⟩).sl) t) _
   rw [h2,Nat.zero_add]
   have h3 := hE.args n
   have e4 : vs.getD n undef = tval a1 t := by
    rw [tval_lt _ (hsl t (List.mem_of_getElem? h1)),hvs,Array.getD_eq_getD_getElem?]
    simp only [List.getElem?_toArray,List.getElem?_map,h1,Option.map_some,Option.getD_some]
   rw [e4] at h3
   exact h3
 refine hb _ (some l) m _ S1 .normal a1 w1 (roundPost P l R) hE.seven hst hf (fun a2 w2 hs2 => ?_)
 obtain ⟨O2,hm2,_,_,_⟩ := hs2
 have hnw : (!lendsOwn false ds) = true ∨ newOuts cs = true := hnew
 have hj := jr_start (F := fun _ => False) hm1 hm2 has hap hcs (fun _ _ h => h) hp (!lendsOwn false ds) (fun h => by simpa using h) hnw (fun k hk => by rw [hg] at hk; cases hk)
 obtain ⟨q1,q2,_,_⟩ := jr_end hm1 hm2 hj (fun k hk => by rw [hg] at hk; cases hk) (fun k hk => by rw [hg] at hk; cases hk)
 have hl2 : w2.heap[l]? = some (.loop { state := .busy,pending := none,fn := fn,tmps := a.tmps,params := #[i,x],assign := .region id ops false,body := body,defers := D }) := by
  obtain ⟨h1,h2⟩ := okb_no hm1 hlB hl1 rfl
  rw [q2.heap l h1 h2]; exact hl1
 refine ⟨_,_,run_endRound none hl2,?_⟩
 refine hR _ _ (q1.putO hl2 rfl rfl hlB) ?_
 rw [hw1] at q2
 exact Tr.round hl hta q2
end
end Go.Lg

namespace Go.Lg
open Go.RowKit
variable [GL]
set_option linter.unusedVariables false
set_option linter.unusedSimpArgs false
theorem bk0_of {ls : List LOp} (h : bk0 ls = true) : ls = [⟨some 4,.load 1 false,[.t 1],none⟩,⟨some 5,.len,[.t 4],none⟩,⟨some 6,.bin .sub,[.t 5,.c (.i 1)],none⟩,⟨some 3,.mv,[.t 6],none⟩] := by
 unfold bk0 at h
 split at h
 ·simp only [decide_eq_true_eq] at h
  obtain ⟨rfl,rfl,rfl,rfl,rfl,rfl,rfl,rfl,rfl,rfl,rfl⟩ := h
  rfl
 ·cases h
theorem bk1_of {ls : List LOp} (h : bk1 ls = true) : ls = [⟨some 7,.mv,[.t 3],none⟩,⟨some 8,.bin .geq,[.t 7,.c (.i 0)],none⟩] := by
 unfold bk1 at h
 split at h
 ·simp only [decide_eq_true_eq] at h
  obtain ⟨rfl,rfl,rfl,rfl,rfl⟩ := h
  rfl
 ·cases h
theorem bk2_of {ls : List LOp} (h : bk2 ls = true) : ls = [⟨some 9,.mv,[.t 3],none⟩,⟨some 10,.bin .sub,[.t 9,.c (.i 1)],none⟩,⟨some 3,.mv,[.t 10],none⟩] := by
 unfold bk2 at h
 split at h
 ·simp only [decide_eq_true_eq] at h
  obtain ⟨rfl,rfl,rfl,rfl,rfl,rfl,rfl⟩ := h
  rfl
 ·cases h
theorem bk3_of {ls : List LOp} (h : bk3 ls = true) : ∃ id,ls = [⟨some 11,.mv,[.t 0],none⟩,⟨some 12,.mv,[.t 3],none⟩,⟨some 13,.load 1 false,[.t 1],none⟩,⟨some 14,.mv,[.t 3],none⟩,⟨some 15,.idxa 1,[.t 13,.t 14],none⟩,⟨some 16,.load 1 false,[.t 15],none⟩,⟨some 17,.calld id,[.t 11,.t 12,.t 16],none⟩,⟨some 18,.un .not,[.t 17],none⟩] := by
 unfold bk3 at h
 split at h
 ·rename_i id _ _ _ _
  simp only [decide_eq_true_eq] at h
  obtain ⟨rfl,rfl,rfl,rfl,rfl,rfl,rfl,rfl,rfl,rfl,rfl,rfl,rfl,rfl,rfl,rfl,rfl,rfl,rfl,rfl,rfl,rfl,rfl,rfl⟩ := h
  exact ⟨_,rfl⟩
 ·cases h
theorem bkOps_of {P : Program} {f : List LOp → Bool} {ops : Array Oper} (h : bkOps P f ops = true) : ∃ ls,viewOps P ops ops.toList = some ls ∧ f ls = true := by
 unfold bkOps at h
 split at h
 ·rename_i ls hls; exact ⟨ls,hls,h⟩
 ·cases h
theorem tmpB_of {x : Operand} {n : Nat} (h : tmpB x n = true) : x = .tmp n := by
 unfold tmpB at h
 split at h
 ·rw [beq_iff_eq.1 h]
 ·cases h
theorem bkCode_of {P : Program} {code : Code} (h : bkCode P code = true) : ∃ i0 o0 b0 i1 o1 b1 i3 o3 i2 o2,code = .seq (.region i0 o0 false) (.block b0 (.loop (.seq (.seq (.region i1 o1 false) (.cond (.tmp 8) .skip (.exit b0))) (.seq (.block b1 (.seq (.region i3 o3 false) (.cond (.tmp 18) .ret .skip))) (.region i2 o2 false))))) ∧
  bkOps P bk0 o0 = true ∧ bkOps P bk1 o1 = true ∧ bkOps P bk3 o3 = true ∧ bkOps P bk2 o2 = true ∧ rawB o3 = true := by
 unfold bkCode at h
 split at h
 ·simp only [Bool.and_eq_true,beq_iff_eq] at h
  obtain ⟨⟨⟨⟨⟨⟨⟨h0,h1⟩,h3⟩,h2⟩,hw⟩,hb⟩,c1⟩,c3⟩ := h
  have e1 := tmpB_of c1
  have e3 := tmpB_of c3
  subst hb; subst e1; subst e3
  exact ⟨_,_,_,_,_,_,_,_,_,_,rfl,h0,h1,h3,h2,hw⟩
 ·cases h
theorem viewOps_dst {P : Program} {ops : Array Oper} : ∀ {os : List Oper} {ls : List LOp},viewOps P ops os = some ls → ∀ o ∈ os,∃ l ∈ ls,l.dst = o.dst
 | [],_,_,o,ho => by cases ho
 | x :: os,[],h,o,ho => by have := viewOps_nil h; cases this
 | x :: os,l :: ls,h,o,ho => by
  obtain ⟨o1,os1,e,h1,h2⟩ := viewOps_cons h
  injection e with e1 e2
  subst e1; subst e2
  rcases List.mem_cons.1 ho with rfl | ho
  ·refine ⟨l,List.mem_cons_self ..,?_⟩
   unfold viewOp at h1
   split at h1
   ·split at h1
    ·split at h1
     ·injection h1 with h; subst h; rfl
     ·split at h1
      ·injection h1 with h; subst h; rfl
      ·cases h1
    ·cases h1
   ·cases h1
  ·obtain ⟨l',hl',e⟩ := viewOps_dst h2 o ho
   exact ⟨l',List.mem_cons_of_mem _ hl',e⟩
theorem ops_in {P : Program} {ops : Array Oper} {os : List Oper} {ls : List LOp} {N : Nat} (h : viewOps P ops os = some ls) (hl : ls.all (fun l => Opx l.dst N) = true) : ∀ o ∈ os,Opx o.dst N = true := fun o ho => by
 obtain ⟨l,h1,h2⟩ := viewOps_dst h o ho
 have := List.all_eq_true.1 hl l h1
 rw [h2] at this
 exact this
theorem len_small {c : Cx} {w : World} {O : OM} {p : Nat} {es : List DV} {v : Value} (h : VR w c.B (okb c.ok0 c.B O) O (.adr (.sl p es)) v) : es.length ≤ maxLen := by
 have key : ∀ u,CR w c.B (okb c.ok0 c.B O) (.sl p es) u → es.length ≤ maxLen := fun u hu => by
  cases hu with
  | sl0 => exact Nat.zero_le _
  | sl p es ad n cap sz xs hn h0 hc hm => rw [hn]; exact Nat.le_trans hc hm
 cases h with
 | cr _ _ h => cases h
 | adr d ad xs hok hlt hcell h =>
  have h1 : xs.length = 1 := h.1
  match xs,h1 with
  | [u],_ => exact key u (h.2 0 _ u rfl rfl)

theorem wr_in {n : Int} (h0 : -9223372036854775808 ≤ n) (h1 : n ≤ 9223372036854775807) : wr n = n := by
 unfold wr Go.IntKind.wrap; simp [Go.IntKind.bits,Go.IntKind.signed]; omega
theorem load_one {fr : Nat → Bool} {d : DV} (h : d.oneC = true) (ob : OB) : effP fr (.load 1 false) [.adr d] ob = some (d,ob) := by
 cases d <;> first | rfl | cases h
theorem one_cells {d : DV} (h : d.oneC = true) : d.cells.length = 1 := by
 cases d <;> first | rfl | cases h
theorem put_tmp {a : Act} {d t : Nat} {v : Value} (hd : d < a.tmps.size) : (a.put (some d) v).tmps.getD t undef = if t = d then v else a.tmps.getD t undef := getD_put a d t v hd
theorem viewOpd_t {x : Operand} {t : Nat} (h : viewOpd x = some (.t t)) (ht : t < 1048576) : x = .tmp t := by
 unfold viewOpd at h
 split at h
 ·split at h
  ·injection h with h; injection h with h; rw [h]
  ·cases h
 ·simp only [Option.map_eq_some_iff] at h
  obtain ⟨_,_,h⟩ := h
  cases h
 ·injection h with h; injection h with h
  unfold gslot at h; omega
 ·cases h
theorem viewOpds_cons {x : Operand} {xs : List Operand} {y : Opd} {ys : List Opd} (h : viewOpds (x :: xs) = some (y :: ys)) : viewOpd x = some y ∧ viewOpds xs = some ys := by
 simp only [viewOpds] at h
 split at h
 ·rename_i y' hy
  split at h
  ·rename_i ys' hys
   injection h with h; injection h with h1 h2
   exact ⟨by rw [hy,h1],by rw [hys,h2]⟩
  ·cases h
 ·cases h
theorem viewOpds_len {xs : List Operand} : ∀ {ys : List Opd},viewOpds xs = some ys → xs.length = ys.length := by
 induction xs with
 | nil => intro ys h; simp only [viewOpds,Option.some.injEq] at h; subst h; rfl
 | cons x xs ih =>
  intro ys h
  simp only [viewOpds] at h
  split at h
  ·split at h
   ·rename_i ys' hys
    injection h with h
    subst h
    simp [ih hys]
   ·cases h
  ·cases h
/-- What the call of the body is. -/
theorem yield_op {P : Program} {ops : Array Oper} {o : Oper} {id : Nat} (h : viewOp P ops o = some ⟨some 17,.calld id,[.t 11,.t 12,.t 16],none⟩) : o.guard = none ∧ o.dst = some 17 ∧ ∃ cl,o.op = .call cl ∧ cl.callee = .value (.tmp 11) ∧ cl.args = #[.tmp 12,.tmp 16] := by
 unfold viewOp at h
 split at h
 ·rename_i k xs hk
  split at h
  ·rename_i ys hys
   split at h
   ·rename_i hg
    injection h with h
    injection h with h1 h2 h3 _
    subst h2
    refine ⟨hg,h1,?_⟩
    obtain ⟨cl,t,hop,hcal,rfl⟩ := viewK_calld hk
    rw [h3] at hys
    obtain ⟨q1,q2⟩ := viewOpds_cons hys
    have e1 := viewOpd_t q1 (by omega)
    injection e1 with e1
    subst e1
    refine ⟨cl,hop,hcal,?_⟩
    have ln := viewOpds_len q2
    match hx : cl.args.toList,ln with
    | [x,y],_ =>
     rw [hx] at q2
     obtain ⟨r1,r2⟩ := viewOpds_cons q2
     obtain ⟨s1,_⟩ := viewOpds_cons r2
     rw [viewOpd_t r1 (by omega),viewOpd_t s1 (by omega)] at hx
     exact Array.toList_inj.1 hx
   ·split at h
    ·injection h with h; injection h with _ _ _ h; cases h
    ·cases h
  ·cases h
 ·cases h
section
variable {P : Program} {c : Cx}
/-- The record of the loop. -/
def recL (a : Act) (i x id : Nat) (ops : Array Oper) (body : Code) (D fn : Nat) (st : LoopState) : Obj := .loop { state := st,pending := none,fn := fn,tmps := a.tmps,params := #[i,x],assign := .region id ops false,body := body,defers := D }
def bkBody (b0 b1 i1 i2 i3 : Nat) (o1 o2 o3 : Array Oper) : Code := .seq (.seq (.region i1 o1 false) (.cond (.tmp 8) .skip (.exit b0))) (.seq (.block b1 (.seq (.region i3 o3 false) (.cond (.tmp 18) .ret .skip))) (.region i2 o2 false))
/-- The loop of what slices.Backward gives. -/
theorem loop_ok (hF : ∀ r ∈ c.refs,6 ≤ r.1 % 8) {N m : Nat} {i x : Nat} {slots : List Nat} {ls : List LOp} {id : Nat} {ops : Array Oper} {body : Code} {f : LS → Option (Ex × LS)} (hi : i < N ∧ i < 1048576) (hx : x < N ∧ x < 1048576) (hN : ∀ o ∈ ops.toList,Opx o.dst N = true)
  (hls : viewOps P ops ops.toList = some ls) (hb : Snd P N body f) (hsl : ∀ s ∈ slots,s < 1048576) {e0 : Env} {a : Act} (hsz : a.tmps.size = N) {l D fn : Nat} (hlB : c.B ≤ l) {p : Nat} {es : List DV} (hes : es.all DV.oneC = true) {S1 : LS}
  {i1 : Nat} {o1 : Array Oper} {b0 i3 b1 : Nat} {o3 : Array Oper} {i2 : Nat} {o2 : Array Oper} (k1 : bkOps P bk1 o1 = true) (k3 : bkOps P bk3 o3 = true) (k2 : bkOps P bk2 o2 = true) (kw : rawB o3 = true) {u1 : Value} {Q : Exit → Act → World → Prop} {W0 : World} {O0 : OM}
  (hsr0 : SR W0 c.B (okb c.ok0 c.B O0) O0 e0 a) (hv0 : VR W0 c.B (okb c.ok0 c.B O0) O0 (.adr (.sl p es)) u1)
  (hQ : ∀ (W : World) (O : OM) (aB : Act),MR c O S1.ob W → Tr c.ok0 c.B (fun _ => False) W0 O0 W O → W.heap[l]? = some (recL a i x id ops body D fn .ready) → aB.defers = [] → S1.sl = e0 → Q (.exit b0) aB W) :
  ∀ (r : List DV) {obk : OB} {O : OM} {W : World} {aB : Act},MR c O obk W → Tr c.ok0 c.B (fun _ => False) W0 O0 W O → W.heap[l]? = some (recL a i x id ops body D fn .ready) → aB.tmps.size = 19 → aB.defers = [] → aB.tmps.getD 0 undef = .func (.yield l) #[] #[] → aB.tmps.getD 1 undef = u1 →
   aB.tmps.getD 3 undef = .int .i64 ((r.length : Int) - 1) → r.length ≤ es.length → r = (es.take r.length).reverse → backL (roundL f i x slots ls) r ⟨e0,obk⟩ = some S1 → Code.roundsIn (Wd none) m P (bkBody b0 b1 i1 i2 i3 o1 o2 o3) Q (r.length + 1) aB W := by
 obtain ⟨l1,v1,q1⟩ := bkOps_of k1
 obtain ⟨l3,v3,q3⟩ := bkOps_of k3
 obtain ⟨l2,v2,q2⟩ := bkOps_of k2
 have q1 := bk1_of q1
 have q2 := bk2_of q2
 obtain ⟨idy,q3⟩ := bk3_of q3
 subst q1; subst q2; subst q3
 intro r
 induction r with
 | nil =>
  intro obk O W aB hm hT hl hbs hbd h0 h1 h3 hle hr hL
  rw [roundsIn_succ]
  unfold bkBody
  simp only [backL,Option.some.injEq] at hL
  subst hL
  have hsrB : SR W c.B (okb c.ok0 c.B O) O [(3,.i (-1))] aB := fun t => by
   by_cases e : 3 = t
   ·subst e
    rw [tval_lt _ (by omega),h3]
    exact VR.mkI _
   ·simp only [look,if_neg e]; exact .dead _
  refine wpIn_seq (wpIn_seq (wpIn_region_list ?_))
  rw [← List.append_nil o1.toList]
  refine runQ_ok hF (post := []) (N := 19) (e' := [(3,.i (-1)),(7,.i (-1)),(8,.b false)]) (ob' := obk) v1 (ops_in v1 rfl) hbs hm hsrB rfl (fun a' w' O' hm' hsr' ht' hd' hs' hk' => ?_)
  have h8 := (hsr' 8)
  rw [tval_lt _ (by omega)] at h8
  refine wpIn_cond_false (show a'.eval (.tmp 8) = .bool false from h8.bool) (wpIn_exit ?_)
  exact hQ w' O' a' hm' (hT.trans0 ht') (by
   obtain ⟨z1,z2⟩ := okb_no hm hlB hl rfl
   rw [ht'.heap l z1 z2]; exact hl) (by rw [hd']; exact hbd) rfl
 | cons e r ih =>
  intro obk O W aB hm hT hl hbs hbd h0 h1 h3 hle hr hL
  rw [roundsIn_succ]
  unfold bkBody
  simp only [backL] at hL
  split at hL
  rotate_left
  ·cases hL
  rename_i S2 hR2
  have hlen : ((e :: r).length : Int) - 1 = (r.length : Int) := by simp
  rw [hlen] at h3
  simp only [List.length_cons] at hle
  have hsm := len_small hv0
  have hml : maxLen = 9223372036854775807 := rfl
  -- what lies at the place
  have hek : es[r.length]? = some e := by
   have h := congrArg List.reverse hr
   rw [List.reverse_reverse,List.reverse_cons,List.length_cons] at h
   have h2 : (es.take (r.length + 1))[r.length]? = some e := by
    rw [← h,List.getElem?_append_right (by simp)]
    simp
   rw [List.getElem?_take,if_pos (by omega)] at h2
   exact h2
  have hr' : r = (es.take r.length).reverse := by
   have h := congrArg List.reverse hr
   rw [List.reverse_reverse,List.reverse_cons,List.length_cons,List.take_add_one,hek] at h
   have h2 := List.append_inj_left' h rfl
   rw [← h2,List.reverse_reverse]
  have hone : e.oneC = true := List.all_eq_true.1 hes e (List.mem_of_getElem? hek)
  have hvW : VR W c.B (okb c.ok0 c.B O) O (.adr (.sl p es)) u1 := hv0.tr hT (fun _ h => h.elim)
  have hsrW : SR W c.B (okb c.ok0 c.B O) O e0 a := fun t => (hsr0 t).tr hT (fun _ h => h.elim)
  have hsrB : SR W c.B (okb c.ok0 c.B O) O [(1,.adr (.sl p es)),(3,.i r.length)] aB := fun t => by
   by_cases e1 : 1 = t
   ·subst e1
    rw [tval_lt _ (by omega),h1]
    exact hvW
   ·by_cases e3 : 3 = t
    ·subst e3
     rw [tval_lt _ (by omega),h3]
     exact VR.mkI _
    ·simp only [look,if_neg e1,if_neg e3]; exact .dead _
  refine wpIn_seq (wpIn_seq (wpIn_region_list ?_))
  rw [← List.append_nil o1.toList]
  have hge : decide ((r.length : Int) ≥ 0) = true := by simp
  refine runQ_ok hF (post := []) (N := 19) (e' := [(1,.adr (.sl p es)),(3,.i r.length),(7,.i r.length),(8,.b true)]) (ob' := obk) v1 (ops_in v1 rfl) hbs hm hsrB (by rw [← hge]; rfl) (fun a1 w1 O1 hm1 hsr1 ht1 hd1 hs1 hk1 => ?_)
  have h8 := (hsr1 8)
  rw [tval_lt _ (by omega)] at h8
  refine wpIn_cond_true (show a1.eval (.tmp 8) = .bool true from h8.bool) (wpIn_skip ?_)
  -- the call of the body
  refine wpIn_seq (wpIn_block (wpIn_seq (wpIn_region_list ?_)))
  obtain ⟨oa,os0,e3,va,vb⟩ := viewOps_cons v3
  rw [e3]
  have hopa : oa.op = .move (.tmp 0) ∧ oa.guard = none ∧ oa.dst = some 11 := by
   unfold rawB at kw
   rw [e3] at kw
   simp only at kw
   split at kw
   ·rename_i y hop
    refine ⟨by rw [hop,tmpB_of kw],?_⟩
    unfold viewOp at va
    split at va
    ·split at va
     ·split at va
      ·rename_i hg
       injection va with va
       injection va with h1 _ _ _
       exact ⟨hg,h1⟩
      ·split at va
       ·injection va with va; injection va with _ _ _ h; cases h
       ·cases va
     ·cases va
    ·cases va
   ·cases kw
  have g0 : a1.tmps.getD 0 undef = .func (.yield l) #[] #[] := by rw [hk1 0 (by decide)]; exact h0
  have g1 : a1.tmps.getD 1 undef = u1 := by rw [hk1 1 (by decide)]; exact h1
  have g3 : a1.tmps.getD 3 undef = .int .i64 r.length := by rw [hk1 3 (by decide)]; exact h3
  refine wpListIn_plain hopa.2.1 fun K hK => ⟨fun _ _ => trivial,?_⟩
  rw [Oper.semAt_eq _ _ _ (fun cl h => by rw [hopa.1] at h; cases h)]
  have run0 : (execOp a1.eval oa).run P w1 = .ok (.value (.func (.yield l) #[] #[])) w1 := by
   have : a1.eval (.tmp 0) = .func (.yield l) #[] #[] := g0
   simp [execOp,hopa.1,this]
  rw [run0]
  refine hK _ _ ?_
  rw [hopa.2.2]
  have hT1 := hT.trans0 ht1
  obtain ⟨a2,ha2⟩ : ∃ a2,a2 = a1.put (some 11) (.func (.yield l) #[] #[]) := ⟨_,rfl⟩
  have p2 : ∀ t,a2.tmps.getD t undef = if t = 11 then .func (.yield l) #[] #[] else a1.tmps.getD t undef := fun t => by rw [ha2]; exact put_tmp (by omega)
  have s2 : a2.tmps.size = 19 := by rw [ha2,put_size]; exact hs1
  rw [← ha2]
  have hsr2 : SR w1 c.B (okb c.ok0 c.B O1) O1 [(1,.adr (.sl p es)),(3,.i r.length)] a2 := fun t => by
   by_cases e1 : 1 = t
   ·subst e1
    rw [tval_lt _ (by omega),p2,if_neg (by omega),g1]
    exact hvW.tr ht1 (fun _ h => h.elim)
   ·by_cases e3 : 3 = t
    ·subst e3
     rw [tval_lt _ (by omega),p2,if_neg (by omega),g3]
     exact VR.mkI _
    ·simp only [look,if_neg e1,if_neg e3]; exact .dead _
  obtain ⟨ob',os1,e4,vb0,vc⟩ := viewOps_cons vb
  obtain ⟨oc,os2,e5,vc0,vd⟩ := viewOps_cons vc
  obtain ⟨od,os3,e6,vd0,ve⟩ := viewOps_cons vd
  obtain ⟨oe,os4,e7,ve0,vf⟩ := viewOps_cons ve
  obtain ⟨og,os5,e8,vf0,vg⟩ := viewOps_cons vf
  obtain ⟨oh,os6,e9,vg0,vh⟩ := viewOps_cons vg
  obtain ⟨oi,os7,e10,vh0,vi⟩ := viewOps_cons vh
  have e11 := viewOps_nil vi
  subst e11; subst e10; subst e9
  have vpre : viewOps P o3 [ob',oc,od,oe,og] = some [⟨some 12,.mv,[.t 3],none⟩,⟨some 13,.load 1 false,[.t 1],none⟩,⟨some 14,.mv,[.t 3],none⟩,⟨some 15,.idxa 1,[.t 13,.t 14],none⟩,⟨some 16,.load 1 false,[.t 15],none⟩] := by
   simp only [viewOps,vb0,vc0,vd0,ve0,vf0]
  rw [e4,e5,e6,e7,e8]
  have hcut : [ob',oc,od,oe,og,oh,oi] = [ob',oc,od,oe,og] ++ [oh,oi] := rfl
  rw [hcut]
  have hq : runQ [⟨some 12,.mv,[.t 3],none⟩,⟨some 13,.load 1 false,[.t 1],none⟩,⟨some 14,.mv,[.t 3],none⟩,⟨some 15,.idxa 1,[.t 13,.t 14],none⟩,⟨some 16,.load 1 false,[.t 15],none⟩] [(1,.adr (.sl p es)),(3,.i r.length)] obk =
    some ([(1,.adr (.sl p es)),(3,.i r.length),(12,.i r.length),(13,.sl p es),(14,.i r.length),(15,.adr e),(16,e)],obk) := by
   have x1 : effP (fun _ => false) (.idxa 1) [.sl p es,.i r.length] obk = some (.adr e,obk) := by
    simp only [effP]
    rw [if_pos (by omega),Int.toNat_natCast,hek]
    simp only [one_cells hone,if_true]
   have x2 := load_one (fr := fun _ => false) hone obk
   have x0 : effP (fun _ => false) (.load 1 false) [.adr (.sl p es)] obk = some (.sl p es,obk) := rfl
   have xm : ∀ d,effP (fun _ => false) .mv [d] obk = some (d,obk) := fun _ => rfl
   simp [runQ,LS.get,look,put,putD,xm,x0,x1,x2]
  refine runQ_ok hF (post := [oh,oi]) (N := 19) vpre (ops_in vpre rfl) s2 hm1 hsr2 hq (fun a3 w3 O3 hm3 hsr3 ht3 hd3 hs3 hk3 => ?_)
  obtain ⟨hgh,hdh,cl,hcl,hcal,hargs⟩ := yield_op vg0
  have q11 : a3.eval (.tmp 11) = .func (.yield l) #[] #[] := by
   show a3.tmps.getD 11 undef = _
   rw [hk3 11 (by decide),p2,if_pos rfl]
  have q12 : a3.eval (.tmp 12) = .int .i64 r.length := by
   have := hsr3 12
   rw [tval_lt _ (by omega)] at this
   exact this.int
  have hl3 : w3.heap[l]? = some (recL a i x id ops body D fn .ready) := by
   obtain ⟨z1,z2⟩ := okb_no hm hlB hl rfl
   have := ht1.trans0 ht3
   rw [this.heap l z1 z2]; exact hl
  have hT3 := hT1.trans0 ht3
  have hv3 := hsr3 16
  rw [tval_lt _ (by omega)] at hv3
  have hS2 : S2.sl = e0 := (round_ok (m := m - 1) hF hi hx hN hls hb hsl hm3 (fun t => (hsr0 t).tr hT3 (fun _ h => h.elim)) hsz hlB hl3 (e := e) (v := a3.eval (.tmp 16)) hv3 (k := r.length) (S2 := S2) hR2 (R := fun _ _ => True) (fun _ _ _ _ => trivial)).1
  obtain ⟨RR,hRR⟩ : ∃ RR : Ending → World → Prop,RR = fun e w' => match e with
   | .returned v => wpListIn (Wd none) m P o3 (Exit.then ((Code.cond (.tmp 18) .ret .skip).wpIn (Wd none) m P (Exit.inBlock b1 (Exit.then ((Code.region i2 o2 false).wpIn (Wd none) m P (Exit.then (Code.roundsIn (Wd none) m P (bkBody b0 b1 i1 i2 i3 o1 o2 o3) Q (r.length + 1)) Q)) (Exit.then (Code.roundsIn (Wd none) m P (bkBody b0 b1 i1 i2 i3 o1 o2 o3) Q (r.length + 1)) Q)))) (Exit.inBlock b1 (Exit.then ((Code.region i2 o2 false).wpIn (Wd none) m P (Exit.then (Code.roundsIn (Wd none) m P (bkBody b0 b1 i1 i2 i3 o1 o2 o3) Q (r.length + 1)) Q)) (Exit.then (Code.roundsIn (Wd none) m P (bkBody b0 b1 i1 i2 i3 o1 o2 o3) Q (r.length + 1)) Q)))) [oi] (a3.put (some 17) v) w'
   | _ => False := ⟨_,rfl⟩
  have hround := (round_ok (m := m - 1) hF hi hx hN hls hb hsl hm3 (fun t => (hsr0 t).tr hT3 (fun _ h => h.elim)) hsz hlB hl3 (e := e) (v := a3.eval (.tmp 16)) hv3 (k := r.length) (S2 := S2) hR2 (R := RR) (fun w4 O4 hm4 ht4 => by
   rw [hRR]
   obtain ⟨a4,ha4⟩ : ∃ a4,a4 = a3.put (some 17) (.bool true) := ⟨_,rfl⟩
   have p4 : ∀ t,a4.tmps.getD t undef = if t = 17 then .bool true else a3.tmps.getD t undef := fun t => by rw [ha4]; exact put_tmp (by omega)
   have s4 : a4.tmps.size = 19 := by rw [ha4,put_size]; exact hs3
   show wpListIn (Wd none) m P o3 _ [oi] (a3.put (some 17) (.bool true)) w4
   rw [← ha4]
   have hsr4 : SR w4 c.B (okb c.ok0 c.B O4) O4 [(17,.b true)] a4 := fun t => by
    by_cases e1 : 17 = t
    ·subst e1
     rw [tval_lt _ (by omega),p4,if_pos rfl]
     exact .cr _ _ (.b true)
    ·simp only [look,if_neg e1]; exact .dead _
   have vlast : viewOps P o3 [oi] = some [⟨some 18,.un .not,[.t 17],none⟩] := by simp only [viewOps,vh0]
   have hcut2 : [oi] = [oi] ++ [] := rfl
   rw [hcut2]
   refine runQ_ok hF (post := []) (N := 19) (e' := [(17,.b true),(18,.b false)]) (ob' := S2.ob) vlast (ops_in vlast rfl) s4 hm4 hsr4 rfl (fun a5 w5 O5 hm5 hsr5 ht5 hd5 hs5 hk5 => ?_)
   have h18 := (hsr5 18)
   rw [tval_lt _ (by omega)] at h18
   refine wpIn_cond_false (show a5.eval (.tmp 18) = .bool false from h18.bool) (wpIn_skip ?_)
   show (Code.region i2 o2 false).wpIn (Wd none) m P _ a5 w5
   refine wpIn_region_list ?_
   have hsr5' : SR w5 c.B (okb c.ok0 c.B O5) O5 [(3,.i r.length)] a5 := fun t => by
    by_cases e1 : 3 = t
    ·subst e1
     rw [tval_lt _ (by omega),hk5 3 (by decide),p4,if_neg (by omega),hk3 3 (by decide),p2,if_neg (by omega),g3]
     exact VR.mkI _
    ·simp only [look,if_neg e1]; exact .dead _
   have w1' : wr ((r.length : Int) - 1) = (r.length : Int) - 1 := wr_in (by omega) (by omega)
   rw [← List.append_nil o2.toList]
   refine runQ_ok hF (post := []) (N := 19) (e' := [(3,.i ((r.length : Int) - 1)),(9,.i r.length),(10,.i ((r.length : Int) - 1))]) (ob' := S2.ob) v2 (ops_in v2 rfl) hs5 hm5 hsr5' (by simp [runQ,effP,LS.get,look,put,putD,binD,binI,w1']) (fun a6 w6 O6 hm6 hsr6 ht6 hd6 hs6 hk6 => ?_)
   have hT6 := (hT3.trans0 ht4).trans0 (ht5.trans0 ht6)
   refine ih hm6 hT6 ?_ hs6 (by rw [hd6,hd5,ha4,put_defers,hd3,ha2,put_defers,hd1]; exact hbd) ?_ ?_ ?_ (by omega) hr' ?_
   ·obtain ⟨z1,z2⟩ := okb_no hm hlB hl rfl
    have := (((ht1.trans0 ht3).trans0 ht4).trans0 (ht5.trans0 ht6))
    rw [this.heap l z1 z2]; exact hl
   ·rw [hk6 0 (by decide),hk5 0 (by decide),p4,if_neg (by omega),hk3 0 (by decide),p2,if_neg (by omega)]; exact g0
   ·rw [hk6 1 (by decide),hk5 1 (by decide),p4,if_neg (by omega),hk3 1 (by decide),p2,if_neg (by omega)]; exact g1
   ·have := hsr6 3
    rw [tval_lt _ (by omega)] at this
    exact this.int
   ·have e2 : S2 = ⟨e0,S2.ob⟩ := by rw [← hS2]
    rw [← e2]; exact hL)).2
  refine wpListIn_plain hgh fun K2 hK2 => ⟨fun _ _ => trivial,?_⟩
  rw [Oper.semAt_eq _ _ _ (fun cl h => by rw [hcl] at h; cases h)]
  have hy := run_yield (P := P) (args := #[.int .i64 r.length,a3.eval (.tmp 16)]) hl3 rfl
  have run1 : (execOp a3.eval oh).run P w3 = .ok (.round l fn ((#[i,x].zip #[Value.int .i64 r.length,a3.eval (.tmp 16)]).foldl (fun t p => t.setIfInBounds p.1 p.2) a.tmps) (.region id ops false) body) w3 := by
   rw [← hy]
   simp [execOp,hcl,resolve,hcal,hargs,q11,q12,Deferred.ofValue,invoke]
  rw [run1,Oper.uponIn_round]
  refine ⟨fun h => (by cases h),hround.mono fun e' w' he' => ?_⟩
  rw [hRR] at he'
  cases e' with
  | returned v => rw [hdh]; exact hK2 _ _ he'
  | panicked ch => exact he'.elim
  | outgrown => exact he'.elim
end
theorem backRow_some {fs : List Nat} {d : DV} {es : List DV} (h : backRow fs d = some es) : ∃ f p,d = .fn f [.adr (.sl p es)] ∧ fs.contains f = true ∧ es.all DV.oneC = true := by
 unfold backRow at h
 split at h
 ·rename_i f p es'
  split at h
  ·rename_i hc
   injection h with h
   subst h
   rw [Bool.and_eq_true] at hc
   exact ⟨f,p,rfl,hc.1,hc.2⟩
  ·cases h
 ·cases h
theorem backB_of {P : Program} {f : Nat} (h : backB P f = true) : ∃ fn code,P.funcs[f]? = some fn ∧ fn.body = some code ∧ (fn.name == "runtime.NumGoroutine") = false ∧ bkCode P code = true ∧ fn.ntmps = 19 ∧ fn.results = #[] := by
 unfold backB at h
 split at h
 ·rename_i fn hfn
  simp only [Bool.and_eq_true,beq_iff_eq,Bool.not_eq_true'] at h
  obtain ⟨⟨⟨h1,h2⟩,h3⟩,h4⟩ := h
  split at h1
  ·rename_i code hb
   exact ⟨fn,code,hfn,hb,h3,h1,h2,Array.eq_empty_of_size_eq_zero h4⟩
  ·cases h1
 ·cases h
theorem tmps19 (Y U : Value) : (#[Y] ++ #[U] ++ Array.replicate (19 - (#[Y] ++ #[U] : Array Value).size) undef).getD 0 undef = Y ∧ (#[Y] ++ #[U] ++ Array.replicate (19 - (#[Y] ++ #[U] : Array Value).size) undef).getD 1 undef = U ∧ (#[Y] ++ #[U] ++ Array.replicate (19 - (#[Y] ++ #[U] : Array Value).size) undef).size = 19 := by
 refine ⟨?_,?_,?_⟩ <;> simp [Array.getD_eq_getD_getElem?]
set_option maxHeartbeats 1000000 in
theorem back_ok {P : Program} : BackSound P := by
 intro N c m fs g i x slots ls id ops body f es S S1 a w Q hfs hi hx hg hN hls hb hsl hF hs hes hL hQ
 obtain ⟨f0,p,hlk,hcon,hone⟩ := backRow_some hes
 obtain ⟨fn,code,hfn,hbody,hname,hbk,hnt,hres⟩ := backB_of (List.all_eq_true.1 hfs f0 (List.contains_iff_mem.1 hcon))
 obtain ⟨i0,o0,b0,i1,o1,b1,i3,o3,i2,o2,rfl,k0,k1,k3,k2,kw⟩ := bkCode_of hbk
 obtain ⟨O,hm,hsr,⟨Ds,hds,hnd,hDs⟩,hsz⟩ := hs
 have hgv := hsr g
 rw [tval_lt _ hg,hlk] at hgv
 obtain ⟨us,hus,hA⟩ := hgv.fn'
 rw [fnV_plain (by intro r hr; injection hr with h; cases h)] at hus
 obtain ⟨u1,hu1⟩ : ∃ u1,us = #[u1] := by
  have h1 : us.toList.length = 1 := hA.1
  match hx : us.toList,h1 with
  | [u],_ => exact ⟨u,Array.toList_inj.1 hx⟩
 subst hu1
 have hv1 : VR w c.B (okb c.ok0 c.B O) O (.adr (.sl p es)) u1 := (hA.2 0 _ u1 rfl rfl).vr
 -- the record
 obtain ⟨W1,hW1⟩ : ∃ W1 : Nat → World,W1 = fun fn' => (w.alloc (.deferred (some []))).alloc (.loop { state := .ready,pending := none,fn := fn',tmps := a.tmps,params := #[i,x],assign := .region id ops false,body := body,defers := w.heap.size }) := ⟨_,rfl⟩
 have hbw := hm.size
 refine wpIn_rangeFunc fun fn' _ => ?_
 have hh : ∀ b,b < w.heap.size → (W1 fn').heap[b]? = w.heap[b]? := fun b hb => by
  rw [hW1]
  exact (Below.heap_alloc _ _ b (by rw [World.size_alloc]; omega)).trans (Below.heap_alloc w _ b hb)
 have hs1 : (W1 fn').heap.size = w.heap.size + 2 := by rw [hW1]; simp
 obtain ⟨hm1,ht1⟩ := hm.ext (w' := W1 fn') hh (by omega) (by rw [hW1]; rfl) (by rw [hW1]; rfl) (by rw [hW1]; rfl)
 have hl1 : (W1 fn').heap[w.heap.size + 1]? = some (recL a i x id ops body w.heap.size fn' .ready) := by
  rw [hW1]
  have := World.alloc_heap_new (w.alloc (.deferred (some []))) (recL a i x id ops body w.heap.size fn' .ready)
  rwa [World.size_alloc] at this
 have hd1 : (W1 fn').heap[w.heap.size]? = some (.deferred (some [])) := by
  rw [hW1]
  exact (Below.heap_alloc _ _ _ (by simp)).trans (World.alloc_heap_new w _)
 refine ⟨w.heap.size + 1,[markD w.heap.size],W1 fn',{ target := .fn (.func f0) #[u1],args := #[.func (.yield (w.heap.size + 1)) #[] #[]] },W1 fn',f0,#[.func (.yield (w.heap.size + 1)) #[] #[]] ++ #[u1],W1 fn',?_,?_,fun _ _ => trivial,?_,fun h => (by cases h),?_⟩
 ·rw [hW1]; exact run_enterLoop_outer _ _ _ _ _
 ·have he : a.eval (.tmp g) = .func (.func f0) #[] #[u1] := hus
  simp [resolve,rangeCall,he,Deferred.ofValue]
  rfl
 ·have hne : ¬ fn.name = "runtime.NumGoroutine" := by simpa using hname
  simp [invoke,callFunc,hfn,hne,hbody]
 ·refine callsIn_of_wp hfn hbody trivial ?_ rfl
  have hsr1 : SR (W1 fn') c.B (okb c.ok0 c.B O) O S.sl a := fun t => (hsr t).tr ht1 (fun _ h => h.elim)
  have hv2 := hv1.tr ht1 (fun _ h => h.elim)
  obtain ⟨l0,v0,q0⟩ := bkOps_of k0
  have q0 := bk0_of q0
  subst q0
  rw [hnt]
  obtain ⟨aB,haB⟩ : ∃ aB : Act,aB = { tmps := #[.func (.yield (w.heap.size + 1)) #[] #[]] ++ #[u1] ++ Array.replicate (19 - (#[.func (.yield (w.heap.size + 1)) #[] #[]] ++ #[u1] : Array Value).size) undef,defers := [] } := ⟨_,rfl⟩
  have t0 : aB.tmps.getD 0 undef = .func (.yield (w.heap.size + 1)) #[] #[] := by rw [haB]; exact (tmps19 _ _).1
  have t1 : aB.tmps.getD 1 undef = u1 := by rw [haB]; exact (tmps19 _ _).2.1
  have ts : aB.tmps.size = 19 := by rw [haB]; exact (tmps19 _ _).2.2
  have td : aB.defers = [] := by rw [haB]
  rw [← haB]
  have hsrB : SR (W1 fn') c.B (okb c.ok0 c.B O) O [(1,.adr (.sl p es))] aB := fun t => by
   by_cases e1 : 1 = t
   ·subst e1
    rw [tval_lt _ (by omega),t1]
    exact hv2
   ·simp only [look,if_neg e1]; exact .dead _
  have hsm := len_small hv1
  have hml : maxLen = 9223372036854775807 := rfl
  have w1' : wr ((es.length : Int) - 1) = (es.length : Int) - 1 := wr_in (by omega) (by omega)
  refine wpIn_seq (wpIn_region_list ?_)
  rw [← List.append_nil o0.toList]
  refine runQ_ok hF (post := []) (N := 19) (e' := [(1,.adr (.sl p es)),(3,.i ((es.length : Int) - 1)),(4,.sl p es),(5,.i es.length),(6,.i ((es.length : Int) - 1))]) (ob' := S.ob) v0 (ops_in v0 rfl) ts hm1 hsrB (by simp [runQ,effP,LS.get,look,put,putD,binD,binI,w1']) (fun a2 w2 O2 hm2 hsr2 ht2 hd2 hs2 hk2 => ?_)
  show (Code.block b0 (.loop (bkBody b0 b1 i1 i2 i3 o1 o2 o3))).wpIn (Wd none) (m - 1) P _ a2 w2
  refine wpIn_block (wpIn_loop_rounds (es.length + 1) ?_)
  have h3 := hsr2 3
  rw [tval_lt _ (by omega)] at h3
  have hr := (List.length_reverse : es.reverse.length = es.length)
  have key := loop_ok (m := m - 1) (u1 := u1) hF hi hx hN hls hb hsl hsz (l := w.heap.size + 1) (D := w.heap.size) (fn := fn') (by omega) hone (S1 := S1) k1 k3 k2 kw (b0 := b0) (b1 := b1) (i1 := i1) (i2 := i2) (i3 := i3) (Q := Exit.inBlock b0 (bodyPost P fn (rangePost (Wd none) m P (w.heap.size + 1) Q { a with defers := [markD w.heap.size] ++ a.defers }))) hsr1 hv2 (fun W O' aB' hmW htW hlW hdW hS1 => ?_) es.reverse hm2 ht2 (by
   obtain ⟨z1,z2⟩ := okb_no hm1 (show c.B ≤ w.heap.size + 1 by omega) hl1 rfl
   rw [ht2.heap _ z1 z2]; exact hl1) hs2 (by rw [hd2]; exact td) (by rw [hk2 0 (by decide)]; exact t0) (by rw [hk2 1 (by decide)]; exact t1) (by rw [hr]; exact h3.int) (by rw [hr]; exact Nat.le_refl _) (by rw [hr,List.take_length]) hL
  ·rw [hr] at key
   exact key
  ·show Exit.inBlock b0 _ (.exit b0) aB' W
   simp only [Exit.inBlock,if_true]
   refine ⟨hdW,.tuple #[],?_,?_⟩
   ·simp [results,hres]
   ·refine ⟨none,_,run_endLoop (r := { state := .ready,pending := none,fn := fn',tmps := a.tmps,params := #[i,x],assign := .region id ops false,body := body,defers := w.heap.size }) hlW (by simp),?_⟩
    have hm3 := hmW.putO (o' := .loop { state := .exhausted,pending := none,fn := fn',tmps := a.tmps,params := #[i,x],assign := .region id ops false,body := body,defers := w.heap.size }) hlW rfl rfl (show c.B ≤ w.heap.size + 1 by omega)
    refine hQ _ _ ⟨O',hm3,fun t => ?_,⟨w.heap.size :: Ds,by rw [hds]; rfl,?_,fun D hD => ?_⟩,hsz⟩
    ·rw [hS1]
     exact ((hsr1 t).tr htW (fun _ h => h.elim)).putO hlW rfl rfl
    ·rw [List.nodup_cons]
     refine ⟨fun h => ?_,hnd⟩
     have := (Array.getElem?_eq_some_iff.1 (hDs _ h).2).1
     omega
    ·rcases List.mem_cons.1 hD with rfl | hD
     ·refine ⟨hbw,?_⟩
      rw [World.putObj_heap_other (by omega)]
      obtain ⟨z1,z2⟩ := okb_no hm1 (show c.B ≤ w.heap.size from hbw) hd1 rfl
      rw [htW.heap _ z1 z2]; exact hd1
     ·obtain ⟨z3,z4⟩ := hDs D hD
      have hlt := (Array.getElem?_eq_some_iff.1 z4).1
      refine ⟨z3,?_⟩
      rw [World.putObj_heap_other (by omega)]
      have z5 : (W1 fn').heap[D]? = some (.deferred (some [])) := by rw [hh D hlt]; exact z4
      obtain ⟨z1,z2⟩ := okb_no hm1 z3 z5 rfl
      rw [htW.heap _ z1 z2]; exact z5
end Go.Lg

namespace Go.Lg
variable [GL]
set_option linter.unusedSimpArgs false
set_option linter.unusedVariables false
open Go.RowKit Go.ChangeShapes Go.WideShapes Go.Deep

def eR (r : List Int) : DV := .sl 0 (r.map .i)
def rss (L : List (List Int)) : DV := .sl 0 (L.map eR)
section
variable {H : Type} {enc : TypeId × Value → H} {P : Program} {w : World} {base b0 : Nat} {r : Reach} {spare : Nat → Bool} {held : Bool}
end
end Go.Lg
