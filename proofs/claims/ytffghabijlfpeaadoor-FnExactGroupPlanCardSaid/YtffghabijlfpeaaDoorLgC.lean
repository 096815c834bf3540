/- Part C of a logical reading of translated Go: what a frame holds is said by lists, and each operation is proved against the model. No conditions. -/
import Derived.Test.YtffghabijlfpeaaDoorLgB
import Derived.Below
set_option linter.unusedSectionVars false
set_option linter.unusedVariables false
set_option linter.unusedSimpArgs false
namespace Go.Lg
open Go.RowKit
variable [GL]
set_option linter.unusedVariables false

def ctOk (m old:Bool) (c:Cx) (O:OM) (ds:List DV) (b:Nat):Prop:=(lendsOwn m ds=false→okb c.ok0 c.B O b)∧(old=true→b < c.B)
theorem oldArgs_get {ob:OB}:∀ {ds:List DV} (_:oldArgs ob ds=true) {j:Nat} {d:DV},ds[j]?=some d→oldArg ob d=true
 | [],_,j,d,h=>by simp at h
 | x :: ds,h,j,d,hd=>by
  simp only [oldArgs,Bool.and_eq_true] at h
  cases j with
  | zero=>simp only [List.getElem?_cons_zero,Option.some.injEq] at hd; subst hd; exact h.1
  | succ j=>simp only [List.getElem?_cons_succ] at hd; exact oldArgs_get h.2 hd
def refAt (m:Bool) (ds:List DV) (j:Nat):Option Nat:=(ds[j]?).bind (refOf m)
/-- The mark of the number: handed over for good,or to be handed back. -/
def tgOf:DV→Nat
 | .giv _ _=>6
 | _=>7
theorem tgOf_lt (d:DV):tgOf d < 8:=by cases d <;> simp [tgOf]
theorem tgOf_ge (d:DV):6≤tgOf d:=by cases d <;> simp [tgOf]
def tgAt (ds:List DV) (j:Nat):Nat:=match ds[j]? with
 | some d=>tgOf d
 | none=>7
theorem tgAt_lt (ds:List DV) (j:Nat):tgAt ds j < 8:=by
 unfold tgAt
 split
 ·exact tgOf_lt _
 ·omega
theorem tgAt_ge (ds:List DV) (j:Nat):6≤tgAt ds j:=by
 unfold tgAt
 split
 ·exact tgOf_ge _
 ·omega
theorem tgAt_of {ds:List DV} {j:Nat} {d:DV} (h:ds[j]?=some d):tgAt ds j=tgOf d:=by unfold tgAt; rw [h]
def ctO (m:Bool) (O:OM) (ds:List DV):OM:=fun k=>match refAt m ds (k / 512) with
 | some k0=>match O k0 with
  | some p=>if k=mkId (k / 512) p.sz (tgAt ds (k / 512)) then some p else none
  | none=>none
 | none=>none
def ctRef (m:Bool) (O:OM) (ds:List DV) (j:Nat):Option (Nat×PO):=match refAt m ds j with
 | some k0=>(O k0).map fun p=>(mkId j p.sz (tgAt ds j),p)
 | none=>none
def ctRefs (m:Bool) (O:OM) (ds:List DV):List (Nat×PO):=(List.range ds.length).filterMap (ctRef m O ds)

theorem refAt_some {m:Bool} {ds:List DV} {j k:Nat} (h:refAt m ds j=some k):∃ d,ds[j]?=some d∧refOf m d=some k:=by
 unfold refAt at h
 cases hd:ds[j]? with
 | none=>rw [hd] at h; cases h
 | some d=>rw [hd] at h; exact ⟨d,rfl,h⟩
theorem refAt_of {m:Bool} {ds:List DV} {j k:Nat} {d:DV} (hd:ds[j]?=some d) (h:refOf m d=some k):refAt m ds j=some k:=by
 unfold refAt; rw [hd]; exact h
theorem ctO_some {m:Bool} {O:OM} {ds:List DV} {k:Nat} {p:PO} (h:ctO m O ds k=some p):∃ k0,refAt m ds (k / 512)=some k0∧O k0=some p∧k=mkId (k / 512) p.sz (tgAt ds (k / 512)):=by
 unfold ctO at h
 split at h
 ·rename_i k0 hd
  split at h
  ·rename_i q hq
   split at h
   ·rename_i hk
    injection h with h
    subst h
    exact ⟨k0,hd,hq,hk⟩
   ·cases h
  ·cases h
 ·cases h
theorem ctRefs_mem {m:Bool} {O:OM} {ds:List DV} {r:Nat×PO} (h:r∈ctRefs m O ds):∃ j k0,refAt m ds j=some k0∧O k0=some r.2∧r.1=mkId j r.2.sz (tgAt ds j):=by
 unfold ctRefs at h
 rw [List.mem_filterMap] at h
 obtain ⟨j,_,hj⟩:=h
 unfold ctRef at hj
 split at hj
 ·rename_i k0 hd
  rw [Option.map_eq_some_iff] at hj
  obtain ⟨p,hp,rfl⟩:=hj
  exact ⟨j,k0,hd,hp,rfl⟩
 ·cases hj
theorem ctRefs_of {m:Bool} {O:OM} {ds:List DV} {j k0:Nat} {p:PO} (hd:refAt m ds j=some k0) (hp:O k0=some p):(mkId j p.sz (tgAt ds j),p)∈ctRefs m O ds:=by
 unfold ctRefs
 rw [List.mem_filterMap]
 refine ⟨j,?_,?_⟩
 ·rw [List.mem_range]
  obtain ⟨d,h,_⟩:=refAt_some hd
  exact (List.getElem?_eq_some_iff.1 h).1
 ·unfold ctRef
  simp [hd,hp]

theorem givKs_of {ds:List DV} {j k n:Nat} (h:ds[j]?=some (.giv k n)):k∈givKs ds:=by
 induction ds generalizing j with
 | nil=>simp at h
 | cons d ds ih =>
  cases j with
  | zero=>simp only [List.getElem?_cons_zero,Option.some.injEq] at h; subst h; simp [givKs]
  | succ j =>
   simp only [List.getElem?_cons_succ] at h
   have:=ih h
   cases d <;> simp_all [givKs]
theorem givKs_ex {k:Nat}:∀ {ds:List DV},k∈givKs ds→∃ (j n:Nat),ds[j]?=some (DV.giv k n)
 | [],h=>by cases h
 | d :: ds,h=>by
  have tail:k∈givKs ds→∃ (j n:Nat),(d :: ds)[j]?=some (DV.giv k n):=fun h=>by
   obtain ⟨j,n,hj⟩:=givKs_ex h
   exact ⟨j+1,n,hj⟩
  cases d with
  | giv k0 n0 =>
   simp only [givKs,List.mem_cons] at h
   rcases h with rfl | h
   ·exact ⟨0,n0,rfl⟩
   ·exact tail h
  | _=>exact tail h
theorem tg_six {m:Bool} {ds:List DV} {j k:Nat} (h:refAt m ds j=some k) (h6:tgAt ds j=6):k∈givKs ds:=by
 obtain ⟨d,hd,hr⟩:=refAt_some h
 rw [tgAt_of hd] at h6
 cases d with
 | giv k0 n0 =>
  have:k0=k:=by simpa [refOf] using hr
  subst this
  exact givKs_of hd
 | _=>simp [tgOf] at h6
theorem giv_ref {m:Bool} {ds:List DV} {k:Nat} (h:k∈givKs ds):∃ j,refAt m ds j=some k∧tgAt ds j=6:=by
 obtain ⟨j,n,hj⟩:=givKs_ex h
 exact ⟨j,refAt_of hj rfl,tgAt_of hj⟩

theorem refKs_cons (m:Bool) (d:DV) (ds:List DV):refKs m (d :: ds)=match refOf m d with
  | some k=>k :: refKs m ds
  | none=>refKs m ds:=by
 cases d <;> first | rfl | (cases m <;> rfl)
theorem refKs_mem {m:Bool}:∀ {ds:List DV} {j k:Nat},refAt m ds j=some k→k∈refKs m ds
 | [],j,k,h=>by simp [refAt] at h
 | d :: ds,j,k,h=>by
  rw [refKs_cons]
  cases j with
  | zero =>
   have h':refOf m d=some k:=h
   rw [h']; simp
  | succ j =>
   have:=refKs_mem (j:=j) (ds:=ds) h
   cases refOf m d <;> simp [this]
theorem refKs_ex {m:Bool} {k:Nat}:∀ {ds:List DV},k∈refKs m ds→∃ j,refAt m ds j=some k
 | [],hk=>by cases hk
 | d :: ds,hk=>by
  rw [refKs_cons] at hk
  have tail:k∈refKs m ds→∃ j,refAt m (d :: ds) j=some k:=fun h=>by
   obtain ⟨j,hj⟩:=refKs_ex h
   exact ⟨j+1,hj⟩
  cases hr:refOf m d with
  | none=>rw [hr] at hk; exact tail hk
  | some k0 =>
   rw [hr] at hk
   rcases List.mem_cons.1 hk with rfl | hk
   ·exact ⟨0,hr⟩
   ·exact tail hk
theorem ownKs_mem {ds:List DV} {j k n a o:Nat} (h:ds[j]?=some (.own k n a o)):k∈ownKs ds:=by
 induction ds generalizing j with
 | nil=>simp at h
 | cons d ds ih =>
  cases j with
  | zero=>simp only [List.getElem?_cons_zero,Option.some.injEq] at h; subst h; simp [ownKs]
  | succ j =>
   simp only [List.getElem?_cons_succ] at h
   have:=ih h
   cases d <;> simp_all [ownKs]
theorem lendsOwn_of {ds:List DV} {j k n a o:Nat} (h:ds[j]?=some (.own k n a o)):lendsOwn false ds=true:=by
 induction ds generalizing j with
 | nil=>simp at h
 | cons d ds ih =>
  cases j with
  | zero=>simp only [List.getElem?_cons_zero,Option.some.injEq] at h; subst h; rfl
  | succ j =>
   simp only [List.getElem?_cons_succ] at h
   have:=ih h
   cases d <;> simp_all [lendsOwn]
theorem apartKs_own {ks os:List Nat} (h:apartKs ks os=true) {k:Nat} (hk:k∈ks):k∉os:=by
 induction ks with
 | nil=>cases hk
 | cons a ks ih =>
  simp only [apartKs,Bool.and_eq_true,Bool.not_eq_true',List.contains_eq_mem,decide_eq_false_iff_not] at h
  rcases List.mem_cons.1 hk with rfl | hk
  ·exact h.1.2
  ·exact ih h.2 hk
theorem apart_refs {m:Bool}:∀ {ds:List DV} {os:List Nat} (_:apartKs (refKs m ds) os=true) {i j k:Nat} (_:refAt m ds i=some k) (_:refAt m ds j=some k),i=j
 | [],os,h,i,j,k,hi,hj=>by simp [refAt] at hi
 | d :: ds,os,h,i,j,k,hi,hj=>by
  rw [refKs_cons] at h
  have tail:apartKs (refKs m ds) os=true:=by
   cases hr:refOf m d with
   | none=>rw [hr] at h; exact h
   | some k0=>rw [hr] at h; simp only [apartKs,Bool.and_eq_true] at h; exact h.2
  have head:∀ {i:Nat},refOf m d=some k→refAt m ds i=some k→False:=fun {i} hr hi=>by
   rw [hr] at h
   simp only [apartKs,Bool.and_eq_true,Bool.not_eq_true',List.contains_eq_mem,decide_eq_false_iff_not] at h
   exact h.1.1 (refKs_mem hi)
  cases i with
  | zero =>
   cases j with
   | zero=>rfl
   | succ j=>exact (head hi hj).elim
  | succ i =>
   cases j with
   | zero=>exact (head hj hi).elim
   | succ j=>rw [apart_refs tail (i:=i) (j:=j) hi hj]

theorem szId_lt (k:Nat):szId k < 64:=by unfold szId; omega

/-- What is handed over,and only that,is an object of the callee. -/
theorem lend_ref {m:Bool} {ob:OB} {d e:DV} (h:lendArg m ob d=some e):(refOf m d=none→refW e=none)∧∀ k,refOf m d=some k→∃ es0 sz,lookO ob k=some es0∧refW e=some (tgOf d,sz,lendL es0) ∧
  ((∃ c0 n,d=.oad k n 0 0∧n=1∧es0=[c0]∧e=.ref c0.lend∧sz=c0.lend.cells.length)∨(∃ n,d=.own k n 0 n∧es0.length=n∧e=.fr sz (lendL es0)∧sz=szId k) ∨
   (∃ n,d=.giv k n∧es0.length=n∧k % 8≠7∧e=.gv sz (lendL es0)∧sz=szId k)):=by
 cases d with
 | own k n lo hi =>
  cases m with
  | false =>
   simp only [lendArg,Bool.false_eq_true,if_false,Option.map_eq_some_iff] at h
   obtain ⟨es,_,rfl⟩:=h
   exact ⟨fun _=>rfl,fun k hk=>by simp [refOf] at hk⟩
  | true =>
   simp only [lendArg,if_true] at h
   refine ⟨fun hk=>by simp [refOf] at hk,fun k' hk=>?_⟩
   have hk:k=k':=by simpa [refOf] using hk
   subst hk
   split at h
   ·rename_i es hl
    split at h
    ·rename_i hc
     injection h with h
     subst h
     obtain ⟨h1,rfl,rfl⟩:=hc
     exact ⟨es,szId k,hl,rfl,.inr (.inl ⟨_,rfl,h1,rfl,rfl⟩)⟩
    ·cases h
   ·cases h
 | giv k n =>
  refine ⟨fun hk=>by simp [refOf] at hk,fun k' hk=>?_⟩
  have hk:k=k':=by simpa [refOf] using hk
  subst hk
  simp only [lendArg] at h
  split at h
  ·rename_i es hl
   split at h
   ·rename_i hc
    injection h with h
    subst h
    exact ⟨es,szId k,hl,rfl,.inr (.inr ⟨_,rfl,hc.1,hc.2.1,rfl,rfl⟩)⟩
   ·cases h
  ·cases h
 | oad k n a o =>
  refine ⟨fun hk=>by simp [refOf] at hk,fun k' hk=>?_⟩
  have hk:k=k':=by simpa [refOf] using hk
  subst hk
  unfold lendArg at h
  split at h
  ·cases (by assumption:DV.oad k n a o=_)
  ·cases (by assumption:DV.oad k n a o=_)
  ·cases (by assumption:DV.oad k n a o=_)
  ·cases (by assumption:DV.oad k n a o=_)
  ·rename_i heq
   cases heq
   split at h
   ·rename_i c0 hl
    split at h
    ·rename_i hn
     injection h with h
     subst h
     exact ⟨[c0],_,hl,rfl,.inl ⟨c0,n,rfl,hn,rfl,rfl,rfl⟩⟩
    ·cases h
   ·cases h
  all_goals (first | (cases (by assumption:DV.oad k n a o=_)) | cases h)
 | ref c =>
  refine ⟨fun _=>?_,fun k hk=>by simp [refOf] at hk⟩
  cases c <;> simp only [lendArg] at h <;> first | (injection h with h; subst h; rfl) | cases h
 | _ =>
  refine ⟨fun _=>?_,fun k hk=>by simp [refOf] at hk⟩
  simp only [lendArg] at h
  first
   | (injection h with h; subst h; rfl)
   | cases h

section
variable {m:Bool} {P:Program} {c:Cx} {w:World} {O:OM} {ob:OB} {ds as:List DV}

/-- The width of what is handed over is that of its object. -/
theorem lent_ref (hm:MR c O ob w) {k:Nat} {d e:DV} (h:lendArg m ob d=some e) (hr:refOf m d=some k):∃ p es0,O k=some p∧lookO ob k=some es0∧refW e=some (tgOf d,p.sz,lendL es0)∧p.sz < 64∧OR w c.B (okb c.ok0 c.B O) p es0:=by
 obtain ⟨es0,sz,hl,he,hor⟩:=(lend_ref h).2 k hr
 obtain ⟨p,hO,ho⟩:=hm.get hl
 have hsz:sz=p.sz:=by
  rcases hor with ⟨c0,n,_,_,rfl,_,rfl⟩ | ⟨n,_,_,_,rfl⟩ | ⟨n,_,_,_,_,rfl⟩
  ·rw [lend_cells,lendL_map,List.length_map]
   exact ho.wid c0 (List.mem_singleton.2 rfl)
  ·rw [hm.sz k p hO]
  ·rw [hm.sz k p hO]
 subst hsz
 exact ⟨p,es0,hO,hl,he,by rw [hm.sz k p hO]; exact szId_lt k,ho⟩

theorem ct_ok (old:Bool) (hm:MR c O ob w):∀ b,okb c.ok0 c.B O b→b < w.heap.size→((!old)=true∨b < c.B)→okb (ctOk m old c O ds) w.heap.size (ctO m O ds) b:=by
 intro b hb _ ho
 refine ⟨fun _=>⟨fun _=>hb,fun h=>?_⟩,fun k p hk=>?_⟩
 ·rcases ho with h1 | h1
  ·rw [h] at h1; cases h1
  ·exact h1
 obtain ⟨k0,_,hO,_⟩:=ctO_some hk
 exact hb.2 k0 p hO

theorem ct_glob (old:Bool) (hm:MR c O ob w):GlobC ⟨w,ctOk m old c O ds,ctRefs m O ds⟩:=by
 intro r hr
 obtain ⟨h1,h2,h3,xs,h4,h5⟩:=hm.glob r hr
 have hno:∀ k p,O k=some p→p.hv.ownBlock≠some r.1:=fun k p hk hg=>by
  rcases hm.base k p r.1 hk hg with h | ⟨_,q,hq,_,hg'⟩
  ·omega
  ·exact h3 q hq hg'
 refine ⟨Nat.lt_of_lt_of_le h1 hm.size,⟨fun _=>⟨fun _=>h2,hno⟩,fun _=>h1⟩,fun q hq hg=>?_,xs,fun j u hu=>?_,h5⟩
 ·obtain ⟨j,k0,_,hO,_⟩:=ctRefs_mem hq
  exact hno k0 q.2 hO hg
 ·rw [← h4 j u hu]
  refine World.cell?_of_block ?_
  rw [block_add]
  exact hm.frame r.1 h1 (fun q hq hg=>h3 q hq hg)

theorem entry_of (old:Bool) (hold:old=true→oldArgs ob ds=true) (hm:MR c O ob w) {vs:Array Value} (hl:ds.length=vs.size) (hv:∀ (j:Nat) (d:DV) (v:Value),ds[j]?=some d→vs[j]?=some v→VR w c.B (okb c.ok0 c.B O) O d.ung v)
  (has:lendArgs m ob ds=some as) (hap:apartKs (refKs m ds) (lentKs m ds)=true):Entry w (ctOk m old c O ds) (ctRefs m O ds) (ctO m O ds) as vs:=by
 obtain ⟨hlen,hget⟩:=lendArgs_get has
 have hsome:∀ {j:Nat} {x:Nat×Nat×List DV},(as[j]?).bind refW=some x→∃ d e k,ds[j]?=some d∧as[j]?=some e∧lendArg m ob d=some e∧refOf m d=some k∧refW e=some x:=by
  intro j x hx
  cases hj:as[j]? with
  | none=>rw [hj] at hx; cases hx
  | some e =>
   rw [hj,Option.bind_some] at hx
   have hjl:j < ds.length:=by rw [← hlen]; exact (List.getElem?_eq_some_iff.1 hj).1
   have hdj:ds[j]?=some ds[j]:=List.getElem?_eq_getElem hjl
   obtain ⟨e',he',hle⟩:=hget j _ hdj
   rw [hj] at he'
   injection he' with he'
   subst he'
   cases hr:refOf m ds[j] with
   | none=>rw [(lend_ref hle).1 hr] at hx; cases hx
   | some k=>exact ⟨_,e,k,hdj,rfl,hle,hr,hx⟩
 have hw:∀ d∈as,∀ tg sz es,refW d=some (tg,sz,es)→sz < 64:=by
  intro e he tg sz es hr
  obtain ⟨j,hj⟩:=List.mem_iff_getElem?.1 he
  obtain ⟨d,e',k,hd,he',hle,hro,hrw⟩:=hsome (j:=j) (x:=(tg,sz,es)) (by rw [hj]; exact hr)
  obtain ⟨p,es0,_,_,h3,h4,_⟩:=lent_ref hm hle hro
  rw [hrw] at h3
  injection h3 with h3
  simp only [Prod.mk.injEq] at h3
  rw [h3.2.1]; exact h4
 have hok:=ct_ok (m:=m) (ds:=ds) old hm
 have hob:∀ k,lookO (enter 0 as ⟨[],[]⟩).ob k=obAt [] k ((as[k / 512]?).bind refW):=by
  intro k
  rw [enter_ob as 0 ⟨[],[]⟩ k hw]
  simp only [Nat.zero_le,if_true,Nat.sub_zero]
 have hdom:∀ k p,ctO m O ds k=some p→∃ k0 es0,O k0=some p∧refAt m ds (k / 512)=some k0∧lookO (enter 0 as ⟨[],[]⟩).ob k=some (lendL es0)∧OR w c.B (okb c.ok0 c.B O) p es0∧((!old)=true∨allOldL es0=true):=by
  intro k p hk
  obtain ⟨k0,hd,hO,hkk⟩:=ctO_some hk
  obtain ⟨d,hdd,hro⟩:=refAt_some hd
  obtain ⟨e,he,hle⟩:=hget _ _ hdd
  obtain ⟨p',es0,hO',hlk0,hec,_,hor⟩:=lent_ref hm hle hro
  rw [hO] at hO'
  injection hO' with hO'
  subst hO'
  refine ⟨k0,es0,hO,hd,?_,hor,?_⟩
  rotate_left
  ·cases old with
   | false=>exact .inl rfl
   | true =>
    have h1:=oldArgs_get (hold rfl) hdd
    right
    cases d with
    | oad k' n a o =>
     have:k'=k0:=by simpa [refOf] using hro
     subst this
     simp only [oldArg,hlk0] at h1; exact h1
    | own=>simp [oldArg] at h1
    | giv=>simp [oldArg] at h1
    | _=>simp [refOf] at hro
  rw [hob,he,Option.bind_some,hec]
  simp only [obAt]
  rw [tgAt_of hdd] at hkk
  rw [if_pos hkk]
 refine ⟨by rw [hlen,hl],⟨rfl,rfl,rfl,Nat.le_refl _,fun _ _ _=>rfl,fun k=>⟨fun hk=>?_,fun hk=>?_⟩,fun k p es hk he=>?_,fun k k' p p' g hk hk' hg hg'=>?_,fun k p g hk hg=>?_,fun k p hk=>?_,fun r hr _ p hp=>?_,ct_glob old hm⟩,fun j=>?_,fun r hr=>?_⟩
 ·rw [hob]
  cases hx:(as[k / 512]?).bind refW with
  | none=>rfl
  | some x =>
   obtain ⟨tg,sz,es⟩:=x
   simp only [obAt]
   split
   ·rename_i hkk
    exfalso
    obtain ⟨d,e,k0,hd,he,hle,hro,hrw⟩:=hsome hx
    obtain ⟨p,es0,hO,_,h3,h4,_⟩:=lent_ref hm hle hro
    rw [hrw] at h3
    injection h3 with h3
    simp only [Prod.mk.injEq] at h3
    unfold ctO at hk
    rw [refAt_of hd hro] at hk
    simp only [hO] at hk
    rw [h3.1,h3.2.1,← tgAt_of hd] at hkk
    rw [if_pos hkk] at hk
    cases hk
   ·rfl
 ·cases hc:ctO m O ds k with
  | none=>rfl
  | some p=>obtain ⟨_,c0,_,_,h,_⟩:=hdom k p hc; rw [hk] at h; cases h
 ·obtain ⟨k0,es0,hO,_,hlk,hor,hol⟩:=hdom k p hk
  rw [hlk] at he
  injection he with he
  subst he
  refine ⟨by rw [lendL_map,List.length_map]; exact hor.len,hor.pos,lend_wid hor.wid,?_⟩
  ·obtain ⟨xs,hr,hc⟩:=hor.row
   refine ⟨xs,hr,?_⟩
   rw [flat_lend]
   exact hc.lend_ (!old) (hol.imp _root_.id fun h=>allOld_flat h) hok
 ·obtain ⟨k0,_,hO,hd,_⟩:=hdom k p hk
  obtain ⟨k1,_,hO',hd',_⟩:=hdom k' p' hk'
  have e:=hm.inj k0 k1 p p' g hO hO' hg hg'
  subst e
  rw [hO] at hO'
  injection hO' with hO'
  subst hO'
  have e:=apart_refs hap hd hd'
  obtain ⟨_,_,_,h1⟩:=ctO_some hk
  obtain ⟨_,_,_,h2⟩:=ctO_some hk'
  rw [h1,h2,e]
 ·obtain ⟨k0,hd,hO,hkk⟩:=ctO_some hk
  have ht:=tgAt_ge ds (k / 512)
  have h8:=tgAt_lt ds (k / 512)
  have hmod:k % 8=tgAt ds (k / 512):=by
   have:=mkId_mod (j:=k / 512) (sz:=p.sz) h8
   rw [← hkk] at this
   exact this
  exact .inr ⟨by omega,_,ctRefs_of hd hO,by rw [hmod]; exact mkId_mod h8,hg⟩
 ·obtain ⟨k0,hd,hO,hkk⟩:=ctO_some hk
  rw [hkk]
  exact (szId_mk _ _ _ (by rw [hm.sz k0 p hO]; exact szId_lt k0) (tgAt_lt _ _)).symm
 ·obtain ⟨j,k0,hd,hO,hr1⟩:=ctRefs_mem hr
  obtain ⟨k1,hd',hO',hkk⟩:=ctO_some hp
  have hsz1:r.2.sz < 64:=by rw [hm.sz k0 _ hO]; exact szId_lt k0
  have hj:r.1 / 512=j:=by rw [hr1]; exact mkId_div hsz1 (tgAt_lt _ _)
  rw [hj,hd] at hd'
  injection hd' with hd'
  subst hd'
  rw [hO] at hO'
  injection hO' with hO'
  exact hO'.symm
 ·rw [enter_sl as 0 ⟨[],[]⟩ j]
  simp only [Nat.zero_le,if_true,Nat.sub_zero,look]
  by_cases hj:j < ds.length
  ·obtain ⟨e,he,hle⟩:=hget j ds[j] (List.getElem?_eq_getElem hj)
   rw [he]
   simp only
   have hjv:j < vs.size:=by omega
   have hvr:=hv j ds[j] vs[j] (List.getElem?_eq_getElem hj) (by simp [hjv])
   have hg:vs.getD j undef=vs[j]:=by simp [Array.getD_eq_getD_getElem?,hjv]
   rw [hg]
   have hdj:ds[j]?=some ds[j]:=List.getElem?_eq_getElem hj
   generalize vs[j]=v at hvr
   generalize ds[j]=d at hle hvr hdj
   clear hg hget
   have hslot:∀ {k:Nat} {p:PO},refOf m d=some k→O k=some p→p.sz < 64→ctO m O ds (mkId j p.sz (tgOf d))=some p:=by
    intro k p hro hO h64
    unfold ctO
    rw [mkId_div h64 (tgOf_lt d),refAt_of hdj hro,tgAt_of hdj]
    simp only [hO,if_true]
   cases d with
   | own k n lo hi =>
    cases hmm:m with
    | true =>
     obtain ⟨p,es0,hO,hlk,hrw,hlt,hor⟩:=lent_ref hm hle (k:=k) (by simp [refOf,hmm])
     obtain ⟨es1,sz1,hlk1,_,hcase⟩:=(lend_ref hle).2 k (by simp [refOf,hmm])
     rcases hcase with ⟨c0,n0,hd0,_⟩ | ⟨n0,hd0,hn0,rfl,hs1⟩ | ⟨n0,hd0,_⟩
     rotate_left 2
     ·cases hd0
     ·cases hd0
     ·injection hd0 with _ h1 h2 h3
      subst h1; subst h2; subst h3
      rw [hlk] at hlk1; injection hlk1 with hlk1; subst hlk1
      have hsz1:sz1=p.sz:=by rw [hs1,hm.sz k p hO]
      subst hsz1
      obtain ⟨p',hO',hp,_,_,hvw,_⟩:=hvr.own_cur hm hlk hn0
      rw [hO] at hO'; injection hO' with hO'; subst hO'
      show VR _ _ _ _ (.own (mkId j p.sz 7) (lendL es0).length 0 (lendL es0).length) v
      rw [lendL_map,List.length_map,hn0]
      have:=hslot (by simp [refOf,hmm]) hO hlt
      rw [hmm] at this
      exact .own _ _ 0 _ p v this hp (Nat.zero_le _) (Nat.le_refl _) hvw
    | false =>
    subst hmm
    simp only [lendArg,Bool.false_eq_true,if_false,Option.map_eq_some_iff] at hle
    obtain ⟨es,hes,rfl⟩:=hle
    show VR _ _ _ _ (.sl 0 (lendL es)) v
    have hes':=hes
    simp only [elems] at hes
    cases hlk:lookO ob k with
    | none=>rw [hlk] at hes; cases hes
    | some es0 =>
     rw [hlk] at hes
     simp only at hes
     split at hes
     ·rename_i hcond
      injection hes with hes
      obtain ⟨hn,hlo,hhi⟩:=hcond
      obtain ⟨p,hO,hp,_,_,hvw,hor⟩:=hvr.own_cur hm hlk hn
      obtain ⟨A,cp,hve,hc1,hc2,hA,_⟩:=hvw
      have hel:es.length=hi - lo:=by rw [← hes]; simp; omega
      by_cases h0:lo < hi
      ·obtain ⟨g,hg,rfl⟩:=hA h0
       obtain ⟨xs,hr,hcs⟩:=hor.row
       have hwid:∀ e∈es0.take hi,e.cells.length=p.sz:=fun e he=>hor.wid e (List.mem_of_mem_take he)
       have hwid2:∀ e∈es,e.cells.length=p.sz:=fun e he=>hwid e (by rw [← hes] at he; exact List.mem_of_mem_drop he)
       have hfl:flat es=((flat es0).take (hi * p.sz)).drop (lo * p.sz):=by rw [← hes,flat_drop hwid,flat_take hor.wid]
       have hcs2:CRs w c.B (okb c.ok0 c.B O) (flat es) ((xs.take (hi * p.sz)).drop (lo * p.sz)):=by rw [hfl]; exact (hcs.take _).drop _
       have hno:(!old)=true:=by
        cases old with
        | false=>rfl
        | true=>have:=oldArgs_get (hold rfl) hdj; simp [oldArg] at this
       have hcs3:=hcs2.lend_ (!old) (.inl hno) hok
       rw [← flat_lend] at hcs3
       have hgl:=hm.lt hO hg
       rw [hve]
       refine .cr _ _ (.sl 0 (lendL es) _ _ cp p.sz _ (by rw [lendL_map,List.length_map]; exact hel) (by omega) hc1 hc2 (lend_wid hwid2) ⟨fun _=>⟨fun hls=>?_,fun h=>?_⟩,fun k' p' hk'=>?_⟩ hgl (fun _=>hgl) (fun h=>by omega) (fun h=>by cases h) hcs3.1 (fun i u hu=>?_) hcs3.2)
       ·rw [lendsOwn_of hdj] at hls; cases hls
       ·rw [h] at hno; cases hno
       ·obtain ⟨k1,hd',hO',_⟩:=ctO_some hk'
        intro hg'
        have e:=hm.inj k1 k p' p g hO' hO hg' hg
        subst e
        have h1:=apartKs_own hap (refKs_mem hd')
        simp only [lentKs,Bool.false_eq_true,if_false] at h1
        exact h1 (ownKs_mem hdj)
       ·rw [List.getElem?_drop,List.getElem?_take] at hu
        split at hu
        ·have:=hr.cells hg (lo * p.sz+i) u hu
         rw [add_plain'] at this ⊢
         simpa using this
        ·cases hu
      ·have:es=[]:=List.eq_nil_of_length_eq_zero (by omega)
       subst this
       rw [hve,show hi - lo=0 by omega]
       exact .cr _ _ (.sl0 _ _ _ hc2)
     ·cases hes
   | nil =>
    simp only [lendArg,Option.some.injEq] at hle
    subst hle
    have:=(hvr.slice_).2.2 rfl
    rw [this]
    exact .cr _ _ (.sl0 _ _ _ (Nat.zero_le _))
   | oad k n a o =>
    obtain ⟨p,es0,hO,hlk,hrw,hlt,hor⟩:=lent_ref hm hle (k:=k) rfl
    obtain ⟨es1,sz1,hlk1,_,hcase⟩:=(lend_ref hle).2 k rfl
    rcases hcase with ⟨c0,n0,hd0,hn0,rfl,rfl,hs1⟩ | ⟨n0,hd0,_⟩ | ⟨n0,hd0,_⟩
    ·injection hd0 with _ h1 h2 h3
     subst h1; subst h2; subst h3; subst hn0
     rw [hlk] at hlk1; injection hlk1 with hlk1; subst hlk1
     obtain ⟨p',g,hO',hpl,hg,hve,_⟩:=hvr.oad_cur hm hlk rfl
     rw [hO] at hO'
     injection hO' with hO'
     subst hO'
     have hsz:c0.lend.cells.length=p.sz:=by
      simp only [refW,Option.some.injEq,Prod.mk.injEq] at hrw
      exact hrw.2.1
     show VR _ _ _ _ (.oad (mkId j c0.lend.cells.length 7) 1 0 0) v
     rw [hve,hsz]
     exact .oad _ 1 0 0 p g (hslot rfl hO hlt) hpl hg
    ·cases hd0
    ·cases hd0
   | giv k n =>
    obtain ⟨p,es0,hO,hlk,hrw,hlt,hor⟩:=lent_ref hm hle (k:=k) rfl
    obtain ⟨es1,sz1,hlk1,_,hcase⟩:=(lend_ref hle).2 k rfl
    rcases hcase with ⟨c0,n0,hd0,_⟩ | ⟨n0,hd0,_⟩ | ⟨n0,hd0,hn0,hk7,rfl,hs1⟩
    ·cases hd0
    ·cases hd0
    ·injection hd0 with _ h1
     subst h1
     rw [hlk] at hlk1; injection hlk1 with hlk1; subst hlk1
     have hsz1:sz1=p.sz:=by rw [hs1,hm.sz k p hO]
     subst hsz1
     have hvr':VR w c.B (okb c.ok0 c.B O) O (.own k n 0 n) v:=hvr
     obtain ⟨p',hO',hp,_,_,hvw,_⟩:=hvr'.own_cur hm hlk hn0
     rw [hO] at hO'; injection hO' with hO'; subst hO'
     show VR _ _ _ _ (.own (mkId j p.sz 6) (lendL es0).length 0 (lendL es0).length) v
     rw [lendL_map,List.length_map,hn0]
     exact .own _ _ 0 _ p v (hslot rfl hO hlt) hp (Nat.zero_le _) (Nat.le_refl _) hvw
   | i n =>
    simp only [lendArg,Option.some.injEq] at hle
    subst hle
    rw [hvr.int]; exact .cr _ _ (.i n)
   | y n =>
    simp only [lendArg,Option.some.injEq] at hle
    subst hle
    have h1:=hvr.byte_lt
    rw [hvr.byte]; exact .cr _ _ (.y n h1)
   | b n =>
    simp only [lendArg,Option.some.injEq] at hle
    subst hle
    rw [hvr.bool]; exact .cr _ _ (.b n)
   | s n =>
    simp only [lendArg,Option.some.injEq] at hle
    subst hle
    rw [hvr.str]; exact .cr _ _ (.s n)
   | w n =>
    simp only [lendArg,Option.some.injEq] at hle
    subst hle
    rw [hvr.word]; exact .cr _ _ (.w n)
   | q n =>
    simp only [lendArg,Option.some.injEq] at hle
    subst hle
    have h1:=hvr.quad
    rw [h1.1]; exact .cr _ _ (.q n h1.2)
   | r n =>
    simp only [lendArg,Option.some.injEq] at hle
    subst hle
    rw [hvr.rune]; exact .cr _ _ (.r n)
   | fn f cs =>
    simp only [lendArg,Option.some.injEq] at hle
    subst hle
    obtain ⟨us,rfl,hc⟩:=hvr.fn'
    rw [← fnV_lend]
    refine .fn _ _ _ (hc.lend_ (!old) ?_ hok)
    cases old with
    | false=>exact .inl rfl
    | true=>have:=oldArgs_get (hold rfl) hdj; simp only [oldArg,allOldL_all,List.all_eq_true] at this; exact .inr this
   | adr e =>
    simp only [lendArg,Option.some.injEq] at hle
    subst hle
    have hno:(!old)=true:=by
     cases old with
     | false=>rfl
     | true=>have:=oldArgs_get (hold rfl) hdj; simp [oldArg] at this
    obtain ⟨ad,xs,rfl,h2,h3,h4,h5⟩:=hvr.adr'
    show VR _ _ _ _ (.adr e.lend) _
    refine .adr e.lend ad xs (hok _ h2 h3 (.inl hno)) h3 h4 ?_
    rw [lend_cells]
    exact h5.lend_ (!old) (.inl hno) hok
   | st cs =>
    simp only [lendArg,Option.some.injEq] at hle
    subst hle
    obtain ⟨us,rfl,hc⟩:=hvr.st'
    refine .st _ _ (hc.lend_ (!old) ?_ hok)
    cases old with
    | false=>exact .inl rfl
    | true=>have:=oldArgs_get (hold rfl) hdj; simp only [oldArg,allOldL_all,List.all_eq_true] at this; exact .inr this
   | sl p es =>
    simp only [lendArg,Option.some.injEq] at hle
    subst hle
    refine .cr _ _ ((hvr.sl').lend_ (!old) ?_ hok)
    cases old with
    | false=>exact .inl rfl
    | true=>have:=oldArgs_get (hold rfl) hdj; exact .inr (by simpa only [oldArg,DV.allOld] using this)
   | ref c0 =>
    cases c0 with
    | nil =>
     simp only [lendArg,Option.some.injEq] at hle
     subst hle
     have hvr':VR w c.B (okb c.ok0 c.B O) O .nil v:=hvr
     have:=(hvr'.slice_).2.2 rfl
     rw [this]
     exact .nil
    | _=>simp [lendArg] at hle
   | _=>simp [lendArg] at hle
  ·rw [List.getElem?_eq_none (by omega)]
   exact .dead _
 ·obtain ⟨j,k0,hd,hO,hr1⟩:=ctRefs_mem hr
  rw [hr1,mkId_mod (tgAt_lt ds j)]
  exact tgAt_ge ds j
end
end Go.Lg

namespace Go.Lg
open Go.RowKit
variable [GL]
set_option linter.unusedVariables false

theorem outs_cons (ob:OB) (i:Nat) (e:DV) (es:List DV):refW e=none→outs ob i (e :: es)=outs ob (i+1) es:=by
 intro h
 cases e <;> first | rfl | cases h
theorem outs_gv (ob:OB) (i sz:Nat) (l es:List DV):outs ob i (.gv sz l :: es)=outs ob (i+1) es:=rfl
theorem putRefs_cons {m o:Bool} {ob:OB} {d:DV} {ds cs:List DV} (h:refOf m d=none):putRefs m o ob (d :: ds) cs=putRefs m o ob ds cs:=by
 cases d with
 | oad=>cases h
 | giv=>cases h
 | own =>
  cases m with
  | true=>cases h
  | false=>cases cs <;> rfl
 | _=>cases cs <;> rfl
theorem putRefs_spec {m old:Bool} {ob ob0 ob2:OB} {os:List Nat}:∀ {ds as cs:List DV} {obA:OB} {i:Nat},lendArgs m ob0 ds=some as→outs ob2 i as=some cs→putRefs m old ob ds cs=some obA→apartKs (refKs m ds) os=true →
  ∀ k,(k∉refKs m ds→lookO obA k=lookO ob k)∧(∀ j,refAt m ds j=some k→(tgAt ds j=6∧lookO obA k=none)∨(tgAt ds j=7∧∃ sz es0 es1,(as[j]?).bind refW=some (7,sz,es0)∧lookO ob2 (mkId (i+j) sz 7)=some es1∧(newOuts cs=true→allNewL es1=true)∧lookO obA k=some (adoptL old es1)))
 | [],as,cs,obA,i,has,ho,hp,hap,k=>by
  simp only [lendArgs,Option.some.injEq] at has
  subst has
  simp only [outs,Option.some.injEq] at ho
  subst ho
  simp only [putRefs,Option.some.injEq] at hp
  subst hp
  exact ⟨fun _=>rfl,fun j h=>by simp [refAt] at h⟩
 | d :: ds,as,cs,obA,i,has,ho,hp,hap,k=>by
  simp only [lendArgs] at has
  split at has
  ·rename_i e he
   split at has
   ·rename_i es hes
    injection has with has
    subst has
    rw [refKs_cons] at hap ⊢
    cases hr:refOf m d with
    | none =>
     rw [hr] at hap
     have hw:=(lend_ref he).1 hr
     rw [outs_cons _ _ _ _ hw] at ho
     rw [putRefs_cons hr] at hp
     obtain ⟨h1,h2⟩:=putRefs_spec (i:=i+1) hes ho hp hap k
     refine ⟨fun hk=>h1 hk,fun j hj=>?_⟩
     cases j with
     | zero =>
      have:refOf m d=some k:=hj
      rw [hr] at this; cases this
     | succ j =>
      rcases h2 j hj with h | ⟨h0,sz,es0,es1,h3,h4,h5,h6⟩
      ·exact .inl h
      ·exact .inr ⟨h0,sz,es0,es1,by simpa using h3,by rw [← h4]; congr 2; omega,h5,h6⟩
    | some k0 =>
     rw [hr] at hap
     by_cases hgv:∃ n,d=.giv k0 n
     ·obtain ⟨n,rfl⟩:=hgv
      obtain ⟨es0,sz,hl0,hrw,hcase⟩:=(lend_ref he).2 k0 hr
      have heq:e=.gv sz (lendL es0):=by
       rcases hcase with ⟨c0,n0,hd0,_⟩ | ⟨n0,hd0,_⟩ | ⟨n0,hd0,_,_,h1,_⟩
       ·cases hd0
       ·cases hd0
       ·exact h1
      subst heq
      rw [outs_gv] at ho
      simp only [putRefs] at hp
      simp only [apartKs,Bool.and_eq_true,Bool.not_eq_true',List.contains_eq_mem,decide_eq_false_iff_not] at hap
      obtain ⟨h1,h2⟩:=putRefs_spec (i:=i+1) hes ho hp hap.2 k
      refine ⟨fun hk=>?_,fun j hj=>?_⟩
      ·simp only [List.mem_cons,not_or] at hk
       rw [h1 hk.2,lookO_drop,if_neg hk.1]
      ·cases j with
       | zero =>
        have:k0=k:=by
         have h3:refOf m (.giv k0 n)=some k:=hj
         simpa [refOf] using h3
        subst this
        refine .inl ⟨rfl,?_⟩
        rw [h1 hap.1.1,lookO_drop,if_pos rfl]
       | succ j =>
        rcases h2 j hj with h | ⟨h0,sz',e0,e1,h3,h4,h5,h6⟩
        ·exact .inl h
        ·exact .inr ⟨h0,sz',e0,e1,by simpa using h3,by rw [← h4]; congr 2; omega,h5,h6⟩
     have htg:tgOf d=7:=by
      cases d with
      | giv k1 n1 =>
       have:k1=k0:=by simpa [refOf] using hr
       subst this
       exact absurd ⟨n1,rfl⟩ hgv
      | _=>rfl
     obtain ⟨es0,sz,hl0,hrw,hcase⟩:=(lend_ref he).2 k0 hr
     -- what the callee hands back for it
     have hstep:∃ es1 cs',lookO ob2 (mkId i sz 7)=some es1∧outs ob2 (i+1) es=some cs'∧putRefs m old (putO ob k0 (adoptL old es1)) ds cs'=some obA∧(newOuts cs=true→allNewL es1=true∧newOuts cs'=true):=by
      rcases hcase with ⟨c0,n,rfl,_,_,rfl,rfl⟩ | ⟨n,rfl,_,rfl,rfl⟩ | ⟨n,rfl,_⟩
      rotate_left 2
      ·exact absurd ⟨n,rfl⟩ hgv
      ·simp only [outs] at ho
       split at ho
       ·rename_i c1 hc1
        split at ho
        ·rename_i cs' hcs'
         injection ho with ho
         subst ho
         simp only [putRefs] at hp
         have hk0:(DV.oad k0 n 0 0)=.oad k0 n 0 0:=rfl
         refine ⟨[c1],cs',hc1,hcs',by simpa [adoptL] using hp,fun hn=>?_⟩
         cases c1 <;> simp_all [newOuts,allNewL,DV.allNew]
        ·cases ho
       ·cases ho
      ·have hm:m=true:=by
        cases m with
        | true=>rfl
        | false=>simp [refOf] at hr
       subst hm
       simp only [outs] at ho
       split at ho
       ·rename_i es1 hc1
        split at ho
        ·rename_i cs' hcs'
         injection ho with ho
         subst ho
         simp only [putRefs,if_true] at hp
         refine ⟨es1,cs',hc1,hcs',hp,fun hn=>?_⟩
         simpa [newOuts] using hn
        ·cases ho
       ·cases ho
     obtain ⟨es1,cs',q1,q2,q3,q4⟩:=hstep
     have hap':=hap
     simp only [apartKs,Bool.and_eq_true,Bool.not_eq_true',List.contains_eq_mem,decide_eq_false_iff_not] at hap
     obtain ⟨h1,h2⟩:=putRefs_spec (i:=i+1) hes q2 q3 hap.2 k
     refine ⟨fun hk=>?_,fun j hj=>?_⟩
     ·simp only [List.mem_cons,not_or] at hk
      rw [h1 hk.2,lookO_put,if_neg hk.1]
     ·cases j with
      | zero =>
       have:refOf m d=some k:=hj
       rw [hr] at this
       injection this with this
       subst this
       refine .inr ⟨htg,sz,lendL es0,es1,by rw [List.getElem?_cons_zero,Option.bind_some,hrw,htg],q1,fun hn=>(q4 hn).1,?_⟩
       rw [h1 hap.1.1,lookO_put,if_pos rfl]
      | succ j =>
       rcases h2 j hj with h | ⟨h0,sz',e0,e1,h3,h4,h5,h6⟩
       ·exact .inl h
       ·exact .inr ⟨h0,sz',e0,e1,by simpa using h3,by rw [← h4]; congr 2; omega,fun hn=>h5 (q4 hn).2,h6⟩
   ·cases has
  ·cases has

def nw1:DV→Bool
 | .fr _ es=>allNewL es
 | .ref c=>c.allNew
 | d=>d.allNew
theorem newRes_go:∀ ds:List DV,newRes.go ds=ds.all nw1
 | []=>rfl
 | d :: ds=>by
  have ih:=newRes_go ds
  cases d <;> simp [newRes.go,nw1,ih]
theorem VR.same {w:World} {B:Nat} {ok:OkT} {O O':OM} {d:DV} {v:Value} (h:VR w B ok O d v) (hs:∀ k,d.mentions k=true→O' k=O k):VR w B ok O' d v:=by
 induction h with
 | cr d v h=>exact .cr _ _ h
 | st cs vs h=>exact .st _ _ h
 | fn f cs vs h=>exact .fn _ _ _ h
 | nil=>exact .nil
 | np=>exact .np
 | und=>exact .und
 | dead v=>exact .dead v
 | adr d ad xs hok hlt hcell h=>exact .adr d ad xs hok hlt hcell h
 | own k n lo hi p v hO hn h1 h2 hv=>exact .own k n lo hi p v (by rw [hs k (by simp [DV.mentions])]; exact hO) hn h1 h2 hv
 | ownS k n lo hi A cap hO=>exact .ownS k n lo hi A cap (by rw [hs k (by simp [DV.mentions])]; exact hO)
 | oad k n a o p g hO hn hg=>exact .oad k n a o p g (by rw [hs k (by simp [DV.mentions])]; exact hO) hn hg
 | oadS k n a o ad hO=>exact .oadS k n a o ad (by rw [hs k (by simp [DV.mentions])]; exact hO)
 | tup ds vs hl hnt h ih =>
  refine .tup ds vs hl hnt (fun j d u hd hu=>ih j d u hd hu (fun k hk=>hs k ?_))
  have hm:d∈ds:=List.mem_of_getElem? hd
  have ht:=hnt d hm
  simp only [DV.mentions,List.any_eq_true]
  refine ⟨d,hm,?_⟩
  cases d with
  | tup l=>exact absurd rfl (ht l)
  | own=>exact hk
  | oad=>exact hk
  | giv=>rfl
  | _=>simp [DV.mentions] at hk
theorem CR.okm {w:World} {B:Nat} {ok ok':OkT} {d:DV} {v:Value} (h:CR w B ok d v) (hok:∀ b,ok b→b < w.heap.size→ok' b) (hL:∀ j n u,ok.lnk j n u→ok'.lnk j n u):CR w B ok' d v :=
 h.keep (fun _ _ _=>rfl) (Nat.le_refl _) hok hL rfl
theorem CRs.okm {w:World} {B:Nat} {ok ok':OkT} {d:List DV} {v:List Value} (h:CRs w B ok d v) (hok:∀ b,ok b→b < w.heap.size→ok' b) (hL:∀ j n u,ok.lnk j n u→ok'.lnk j n u):CRs w B ok' d v :=
 ⟨h.1,fun j c u h1 h2=>(h.2 j c u h1 h2).okm hok hL⟩
theorem ARs.okm {w:World} {B:Nat} {ok ok':OkT} {d:List DV} {v:List Value} (h:ARs w B ok d v) (hok:∀ b,ok b→b < w.heap.size→ok' b) (hL:∀ j n u,ok.lnk j n u→ok'.lnk j n u):ARs w B ok' d v:=by
 refine ⟨h.1,fun j c u h1 h2=>?_⟩
 rcases h.2 j c u h1 h2 with h3 | ⟨e,ad,xs,rfl,rfl,q1,q2,q3,q4⟩
 ·exact .inl (h3.okm hok hL)
 ·exact .inr ⟨e,ad,xs,rfl,rfl,hok _ q1 q2,q2,q3,q4.okm hok hL⟩
theorem VR.okm {w:World} {B:Nat} {ok ok':OkT} {O:OM} {d:DV} {v:Value} (h:VR w B ok O d v) (hok:∀ b,ok b→b < w.heap.size→ok' b) (hL:∀ j n u,ok.lnk j n u→ok'.lnk j n u):VR w B ok' O d v:=by
 induction h with
 | cr d v h=>exact .cr _ _ (h.okm hok hL)
 | st cs vs h=>exact .st _ _ (h.okm hok hL)
 | fn f cs vs h=>exact .fn _ _ _ (h.okm hok hL)
 | nil=>exact .nil
 | np=>exact .np
 | und=>exact .und
 | dead v=>exact .dead v
 | adr d ad xs hok1 hlt hcell h=>exact .adr d ad xs (hok _ hok1 hlt) hlt hcell (h.okm hok hL)
 | own k n lo hi p v hO hn h1 h2 hv=>exact .own k n lo hi p v hO hn h1 h2 hv
 | ownS k n lo hi A cap hO=>exact .ownS k n lo hi A cap hO
 | oad k n a o p g hO hn hg=>exact .oad k n a o p g hO hn hg
 | oadS k n a o ad hO=>exact .oadS k n a o ad hO
 | tup ds vs hl hnt h ih=>exact .tup ds vs hl hnt ih
theorem OR.okm {w:World} {B:Nat} {ok ok':OkT} {p:PO} {es:List DV} (h:OR w B ok p es) (hok:∀ b,ok b→b < w.heap.size→ok' b) (hL:∀ j n u,ok.lnk j n u→ok'.lnk j n u):OR w B ok' p es:=by
 obtain ⟨xs,hr,hc⟩:=h.row
 exact ⟨h.len,h.pos,h.wid,xs,hr,hc.okm hok hL⟩
theorem OR.adopt_ (o:Bool) {w:World} {B B':Nat} {ok ok':OkT} {p:PO} {es:List DV} (h:OR w B ok p es) (hB:B'≤B) (any:Bool) (hd:any=true∨allNewL es=true) (ho:o=true→∀ b,ok b→b < B→b < B') (hok:∀ b,ok b→b < w.heap.size→(any=true∨B≤b)→ok' b):OR w B' ok' p (adoptL o es):=by
 obtain ⟨xs,hr,hc⟩:=h.row
 refine ⟨by rw [adoptL_map,List.length_map]; exact h.len,h.pos,adopt_wid h.wid,xs,hr,?_⟩
 rw [flat_adopt]
 exact hc.adopt_ o hB any (hd.imp id fun h=>allNew_flat h) ho hok

/-- What a caller may reach after a call: what it could before,but nothing of the objects that the callee made and gave back. -/
def ok1 (c:Cx) (O O1:OM):OkT:=⟨fun b=>okb c.ok0 c.B O b∧∀ k p,O1 k=some p→k % 8≠7→p.hv.ownBlock≠some b,lnkO O⟩

/-- The caller's memory while it takes in what a callee gave back. -/
structure JR (G:List Nat) (c:Cx) (w w':World) (O O1:OM) (F:Nat→Prop) (obk:OB) (Oc:OM) (oc:OB):Prop where
 dom:∀ k,Oc k=none↔lookO oc k=none
 obj:∀ k p es,Oc k=some p→lookO oc k=some es→OR w' c.B (ok1 c O O1) p es
 src:∀ k p,Oc k=some p→(O k=some p∧k∉G)∨((k % 8≠7∧F k)∧∃ k1,O1 k1=some p∧lookO obk k1=none∧k1 % 8≠7)
 inj:∀ k k' p p' g,Oc k=some p→Oc k'=some p'→p.hv.ownBlock=some g→p'.hv.ownBlock=some g→k=k'
 sz:∀ k p,Oc k=some p→p.sz=szId k
 new:∀ k p,¬ F k→Oc k=some p→O k=some p
 five:∀ k p,k % 8=5→O k=some p→Oc k=some p

section
variable {m old:Bool} {P:Program} {c:Cx} {w w':World} {O O1:OM} {ob obc:OB} {ds as:List DV} {F:Nat→Prop}

/-- The objects of a callee that came by their addresses are the caller's,the others are new. -/
theorem ct_new (hm':MR ⟨w,ctOk m old c O ds,ctRefs m O ds⟩ O1 obc w') {k:Nat} {p:PO} {g:Nat} (hO:O1 k=some p) (h7:k % 8≠7) (hg:p.hv.ownBlock=some g):w.heap.size≤g∨∃ k0 p0,k0∈givKs ds∧O k0=some p0∧p0.hv.ownBlock=some g:=by
 rcases hm'.base k p g hO hg with h | ⟨h,r,hr,h1,h2⟩
 ·exact .inl h
 ·obtain ⟨j,k0,hd,hO0,hr1⟩:=ctRefs_mem hr
  have h8:k % 8 < 8:=Nat.mod_lt _ (by omega)
  rw [hr1,mkId_mod (tgAt_lt ds j)] at h1
  exact .inr ⟨k0,r.2,tg_six hd (by omega),hO0,h2⟩
/-- What is left to the caller. -/
def OmG (O:OM) (G:List Nat):OM:=fun k=>if k∈G then none else O k
theorem OmG_some {O:OM} {G:List Nat} {k:Nat} {p:PO} (h:OmG O G k=some p):k∉G∧O k=some p:=by
 unfold OmG at h
 split at h
 ·cases h
 ·rename_i hk; exact ⟨hk,h⟩

theorem ct_back (hm:MR c O ob w) (hm':MR ⟨w,ctOk m old c O ds,ctRefs m O ds⟩ O1 obc w') (any:Bool) (ha:any=true→lendsOwn m ds=false):∀ b,okb (ctOk m old c O ds) w.heap.size O1 b→b < w'.heap.size→(any=true∨w.heap.size≤b)→ok1 c O O1 b:=by
 intro b hb hlt hor
 refine ⟨?_,fun k p hO _=>hb.2 k p hO⟩
 by_cases hbw:b < w.heap.size
 ·rcases hor with h | h
  ·exact (hb.1 hbw).1 (ha h)
  ·omega
 ·refine ⟨fun h=>?_,fun k p hO hg=>?_⟩
  ·have:=hm.size; have:c.B=c.w0.heap.size:=rfl; omega
  ·have:=hm.lt hO hg; omega

theorem ct_low (hm':MR ⟨w,ctOk m old c O ds,ctRefs m O ds⟩ O1 obc w'):old=true→∀ b,okb (ctOk m old c O ds) w.heap.size O1 b→b < w.heap.size→b < c.B:=fun h b hb hlt=>(hb.1 hlt).2 h
theorem ct_old (hm:MR c O ob w) (hm':MR ⟨w,ctOk m old c O ds,ctRefs m O ds⟩ O1 obc w'):∀ b,okb c.ok0 c.B O b→b < w.heap.size→ok1 c O O1 b:=by
 intro b hb hlt
 refine ⟨hb,fun k p hO h7 hg=>?_⟩
 rcases ct_new hm' hO h7 hg with h | ⟨k0,p0,_,h1,h2⟩
 ·omega
 ·exact hb.2 k0 p0 h1 h2

theorem ct_heap (hm:MR c O ob w) (hm':MR ⟨w,ctOk m old c O ds,ctRefs m O ds⟩ O1 obc w'):∀ b,b < w.heap.size→(∀ k p,k∈refKs m ds→O k=some p→p.hv.ownBlock≠some b)→w'.heap[b]?=w.heap[b]?:=by
 intro b hlt hb
 refine hm'.frame b hlt (fun r hr=>?_)
 obtain ⟨j,k0,hd,hO,_⟩:=ctRefs_mem hr
 exact hb k0 r.2 (refKs_mem hd) hO

/-- After a call,before its results are taken in. -/
theorem jr_start (hm:MR c O ob w) (hm':MR ⟨w,ctOk m old c O ds,ctRefs m O ds⟩ O1 obc w') (has:lendArgs m ob ds=some as) (hap:apartKs (refKs m ds) (lentKs m ds)=true) {cs:List DV} {ob2 obA:OB} (ho:outs ob2 0 as=some cs)
  (hsub:∀ k es,lookO ob2 k=some es→lookO obc k=some es) (hp:putRefs m old ob ds cs=some obA) (any:Bool) (ha:any=true→lendsOwn m ds=false) (hn:any=true∨newOuts cs=true) (hg5:∀ k∈givKs ds,k % 8≠5):JR (givKs ds) c w w' O O1 F obc (OmG O (givKs ds)) obA:=by
 have hspec:=putRefs_spec (ob:=ob) (i:=0) has ho hp hap
 have hold:=ct_old hm hm'
 have hsz:w.heap.size≤w'.heap.size:=hm'.size
 have hno:∀ {k:Nat},k∉refKs m ds→k∉givKs ds:=fun h1 h2=>by
  obtain ⟨j,hj,_⟩:=giv_ref (m:=m) h2
  exact h1 (refKs_mem hj)
 have hseven:∀ {k j:Nat},refAt m ds j=some k→tgAt ds j=7→k∉givKs ds:=fun {k j} hj h7 hg=>by
  obtain ⟨i,hi,h6⟩:=giv_ref (m:=m) hg
  have:=apart_refs hap hi hj
  subst this
  omega
 refine ⟨fun k=>?_,fun k p es hk he=>?_,fun k p hk=>.inl ⟨(OmG_some hk).2,(OmG_some hk).1⟩,fun k k' p p' g hk hk'=>hm.inj k k' p p' g (OmG_some hk).2 (OmG_some hk').2,fun k p hk=>hm.sz k p (OmG_some hk).2,fun k p _ hk=>(OmG_some hk).2,fun k p h5 hk=>by unfold OmG; rw [if_neg (fun h=>hg5 k h h5)]; exact hk⟩
 ·by_cases hkr:k∈refKs m ds
  ·obtain ⟨j,hj⟩:=refKs_ex hkr
   rcases (hspec k).2 j hj with ⟨h6,h0⟩ | ⟨h7,sz,es0,es1,h1,h2,h3,h4⟩
   ·rw [h0]
    simp [OmG,tg_six hj h6]
   ·obtain ⟨hlen,hget⟩:=lendArgs_get has
    obtain ⟨d,hd,hro⟩:=refAt_some hj
    obtain ⟨e,he,hle⟩:=hget j _ hd
    obtain ⟨p,_,hO,_⟩:=lent_ref hm hle hro
    unfold OmG
    rw [h4,if_neg (hseven hj h7),hO]; simp
  ·unfold OmG
   rw [(hspec k).1 hkr,if_neg (hno hkr)]; exact hm.dom k
 ·obtain ⟨hkG,hk⟩:=OmG_some hk
  by_cases hkr:k∈refKs m ds
  ·obtain ⟨j,hj⟩:=refKs_ex hkr
   rcases (hspec k).2 j hj with ⟨h6,h0⟩ | ⟨h7,sz,es0,es1,h1,h2,h3,h4⟩
   ·exact absurd (tg_six hj h6) hkG
   obtain ⟨hlen,hget⟩:=lendArgs_get has
   obtain ⟨d,hd,hro⟩:=refAt_some hj
   obtain ⟨e,he',hle⟩:=hget j _ hd
   obtain ⟨p',es0',hO,hlk,hrw,hlt,hor⟩:=lent_ref hm hle hro
   rw [hk] at hO
   injection hO with hO
   subst hO
   rw [h4] at he
   injection he with he
   subst he
   rw [he',Option.bind_some,hrw] at h1
   injection h1 with h1
   simp only [Prod.mk.injEq] at h1
   rw [← h1.2.1,Nat.zero_add] at h2
   have h5:=hsub _ _ h2
   obtain ⟨p1,hO1,hor1⟩:=hm'.get h5
   have hmem:=ctRefs_of hj hk
   rw [h7] at hmem
   have e:p1=p:=hm'.refs _ hmem (mkId_mod (by omega)) p1 hO1
   rw [e] at hor1
   exact hor1.adopt_ old (B':=c.B) (ok':=ok1 c O O1) hm.size any (hn.imp id h3) (ct_low hm') (ct_back hm hm' any ha)
  ·rw [(hspec k).1 hkr] at he
   have hor:=hm.obj k p es hk he
   obtain ⟨xs,hr,hc⟩:=hor.row
   refine ⟨hor.len,hor.pos,hor.wid,xs,⟨hr.1,?_⟩,⟨hc.1,fun j d u h1 h2=>(hc.2 j d u h1 h2).keep (fun b hb hlt=>?_) hsz hold (fun _ _ _ h=>h) rfl⟩⟩
   ·rcases hr.2 with h0 | ⟨g,cap,cur,hv,h1,h2,h3⟩
    ·exact .inl h0
    ·refine .inr ⟨g,cap,cur,hv,h1,?_,h3⟩
     have hg:p.hv.ownBlock=some g:=by rw [hv]; rfl
     rw [ct_heap hm hm' g (hm.lt hk hg) (fun k' p' hk' hO' hg'=>?_)]
     ·exact h2
     ·exact hkr (by rw [hm.inj k k' p p' g hk hO' hg hg']; exact hk')
   ·exact ct_heap hm hm' b hlt (fun k' p' _ hO'=>hb.2 k' p' hO')

/-- In the end it is a memory again. -/
theorem jr_end (hm:MR c O ob w) (hm':MR ⟨w,ctOk m old c O ds,ctRefs m O ds⟩ O1 obc w') {obk oc:OB} {Oc:OM} (h:JR (givKs ds) c w w' O O1 F obk Oc oc) (h7:∀ k∈givKs ds,k % 8≠7) (h6:∀ k∈givKs ds,k % 8=6→∀ i,F i→i % 8=6) :
  MR c Oc oc w'∧Tr c.ok0 c.B F w O w' Oc∧(∀ b,ok1 c O O1 b→okb c.ok0 c.B Oc b)∧∀ j n u,(ok1 c O O1).lnk j n u→(okb c.ok0 c.B Oc).lnk j n u:=by
 have hL:∀ j n u,(ok1 c O O1).lnk j n u→(okb c.ok0 c.B Oc).lnk j n u:=fun j n u hj=>by
  obtain ⟨h5,p,hp,hc⟩:=hj
  exact ⟨h5,p,h.five j p h5 hp,hc⟩
 have hok:∀ b,ok1 c O O1 b→okb c.ok0 c.B Oc b:=fun b hb=>⟨hb.1.1,fun k p hk=>by
  rcases h.src k p hk with ⟨h1,_⟩ | ⟨_,k1,h1,_,h2⟩
  ·exact hb.1.2 k p h1
  ·exact hb.2 k1 p h1 h2⟩
 have hsz:w.heap.size≤w'.heap.size:=hm'.size
 refine ⟨⟨hm'.os.trans hm.os,hm'.tape.trans hm.tape,hm'.output.trans hm.output,Nat.le_trans hm.size hsz,fun b hb hr=>?_,h.dom,fun k p es hk he=>(h.obj k p es hk he).okm (fun b hb _=>hok b hb) hL,h.inj,fun k p g hk hg=>?_,h.sz,fun r hr hr7 p hp=>?_,hm.glob⟩,⟨hsz,fun b hb hlt=>ct_heap hm hm' b hlt (fun k' p' _ hO'=>hb.2 k' p' hO'),fun b hb hlt=>hok b (ct_old hm hm' b hb hlt),fun k p' hN hk=>.inl (h.new k p' hN hk),fun k p h5 hk=>⟨p,h.five k p h5 hk,.inl rfl⟩⟩,hok,hL⟩
 ·have hbw:b < w.heap.size:=Nat.lt_of_lt_of_le hb hm.size
  rw [ct_heap hm hm' b hbw (fun k' p' _ hO' hg=>?_)]
  ·exact hm.frame b hb hr
  ·rcases hm.base k' p' b hO' hg with h1 | ⟨_,r,h1,_,h2⟩
   ·omega
   ·exact hr r h1 h2
 ·rcases h.src k p hk with ⟨h1,_⟩ | ⟨⟨_,hF⟩,k1,h1,_,h2⟩
  ·exact hm.base k p g h1 hg
  ·rcases ct_new hm' h1 h2 hg with h3 | ⟨k0,p0,h3,h4,h5⟩
   ·exact .inl (Nat.le_trans hm.size h3)
   ·rcases hm.base k0 p0 g h4 h5 with h | ⟨h8,r,hr,hr1,hr2⟩
    ·exact .inl h
    ·have:=h7 k0 h3
     have h9:=h6 k0 h3 (by omega) k hF
     exact .inr ⟨by omega,r,hr,by omega,hr2⟩
 ·rcases h.src r.1 p hp with ⟨h1,_⟩ | ⟨⟨h1,_⟩,_⟩
  ·exact hm.refs r hr hr7 p h1
  ·exact absurd hr7 h1
end
end Go.Lg

namespace Go.Lg
open Go.RowKit
variable [GL]
set_option linter.unusedVariables false

theorem giveBack_sub {ob ob1:OB} {d e:DV} (h:giveBack ob d=some (e,ob1)):(∀ k es,lookO ob1 k=some es→lookO ob k=some es)∧∀ l,e≠.tup l:=by
 have dr:∀ (k0 k:Nat) (es:List DV),lookO (dropO ob k0) k=some es→lookO ob k=some es:=fun k0 k es h=>by
  rw [lookO_drop] at h
  split at h
  ·cases h
  ·exact h
 unfold giveBack at h
 split at h
 ·split at h
  ·split at h
   ·injection h with h; simp only [Prod.mk.injEq] at h; obtain ⟨rfl,rfl⟩:=h; exact ⟨dr _,fun l hl=>(by cases hl)⟩
   ·cases h
  ·cases h
 ·split at h
  ·split at h
   ·injection h with h; simp only [Prod.mk.injEq] at h; obtain ⟨rfl,rfl⟩:=h; exact ⟨dr _,fun l hl=>(by cases hl)⟩
   ·cases h
  ·cases h
 all_goals first | (injection h with h; simp only [Prod.mk.injEq] at h; obtain ⟨rfl,rfl⟩:=h; exact ⟨fun _ _ h=>h,fun l hl=>(by cases hl)⟩) | cases h
theorem giveBackL_sub:∀ {ds es:List DV} {ob ob1:OB},giveBackL ob ds=some (es,ob1)→(∀ k l,lookO ob1 k=some l→lookO ob k=some l)∧(∀ e∈es,∀ l,e≠.tup l)∧es.length=ds.length
 | [],es,ob,ob1,h=>by
  simp only [giveBackL,Option.some.injEq,Prod.mk.injEq] at h
  obtain ⟨rfl,rfl⟩:=h
  exact ⟨fun _ _ h=>h,fun e he=>(by cases he),rfl⟩
 | d :: ds,es,ob,ob1,h=>by
  simp only [giveBackL] at h
  split at h
  ·rename_i e ob2 he
   split at h
   ·rename_i es' ob3 hes
    injection h with h
    simp only [Prod.mk.injEq] at h
    obtain ⟨rfl,rfl⟩:=h
    obtain ⟨h1,h2⟩:=giveBack_sub he
    obtain ⟨h3,h4,h5⟩:=giveBackL_sub hes
    refine ⟨fun k l hk=>h1 k l (h3 k l hk),fun x hx=>?_,by simp [h5]⟩
    rcases List.mem_cons.1 hx with rfl | hx
    ·exact h2
    ·exact h4 x hx
   ·cases h
  ·cases h

section
variable {P:Program} {c:Cx} {w w':World} {O O1:OM} {ob obc:OB} {ds as:List DV} {F:Nat→Prop} {fr:Nat→Bool} {m old:Bool}

theorem jr_put (hm:MR c O ob w) (hm':MR ⟨w,ctOk m old c O ds,ctRefs m O ds⟩ O1 obc w') {obk oc:OB} {Oc:OM} (h:JR (givKs ds) c w w' O O1 F obk Oc oc) {k1 kn:Nat} {es es0:List DV} {p:PO} (hk1:lookO obk k1=some es0) (h7:k1 % 8≠7) (hO1:O1 k1=some p)
  (hkn:kn % 8≠7) (h5n:kn % 8≠5) (hF:F kn) (hsz:p.sz=szId kn) (hor:OR w' c.B (ok1 c O O1) p es):JR (givKs ds) c w w' O O1 F (dropO obk k1) (upd Oc kn (some p)) (putO oc kn es):=by
 have key:∀ {k:Nat} {p':PO} {g:Nat},Oc k=some p'→p'.hv.ownBlock=some g→p.hv.ownBlock=some g→False:=by
  intro k p' g hk hg' hg
  rcases h.src k p' hk with ⟨h1,h0⟩ | ⟨_,k2,h1,h2,h3⟩
  ·have:=hm.lt h1 hg'
   rcases ct_new hm' hO1 h7 hg with h2 | ⟨k0,p0,h2,h3,h4⟩
   ·omega
   ·have e:=hm.inj k k0 p' p0 g h1 h3 hg' h4
    subst e
    exact h0 h2
  ·have e:=hm'.inj k2 k1 p' p g h1 hO1 hg' hg
   subst e
   rw [hk1] at h2
   cases h2
 refine ⟨fun k=>?_,fun k q l hk he=>?_,fun k q hk=>?_,fun k k' q q' g hk hk' hg hg'=>?_,fun k q hk=>?_,fun k q hN hk=>?_,fun k q h5 hk=>by rw [upd_other Oc _ (fun e=>h5n (by rw [← e]; exact h5))]; exact h.five k q h5 hk⟩
 ·rw [lookO_put]
  by_cases e:k=kn
  ·simp [e,upd]
  ·simp only [upd,e,if_false]; exact h.dom k
 ·rw [lookO_put] at he
  by_cases e:k=kn
  ·subst e
   rw [upd_same] at hk
   injection hk with hk
   simp only [if_true] at he
   injection he with he
   subst hk; subst he
   exact hor
  ·rw [upd_other Oc _ e] at hk
   rw [if_neg e] at he
   exact h.obj k q l hk he
 ·by_cases e:k=kn
  ·subst e
   rw [upd_same] at hk
   injection hk with hk
   subst hk
   exact .inr ⟨⟨hkn,hF⟩,k1,hO1,by rw [lookO_drop,if_pos rfl],h7⟩
  ·rw [upd_other Oc _ e] at hk
   rcases h.src k q hk with h1 | ⟨h0,k2,h1,h2,h3⟩
   ·exact .inl h1
   ·refine .inr ⟨h0,k2,h1,?_,h3⟩
    rw [lookO_drop]
    split
    ·rfl
    ·exact h2
 ·by_cases e1:k=kn <;> by_cases e2:k'=kn
  ·rw [e1,e2]
  ·subst e1
   rw [upd_same] at hk
   injection hk with hk
   subst hk
   rw [upd_other Oc _ e2] at hk'
   exact (key hk' hg' hg).elim
  ·subst e2
   rw [upd_same] at hk'
   injection hk' with hk'
   subst hk'
   rw [upd_other Oc _ e1] at hk
   exact (key hk hg hg').elim
  ·rw [upd_other Oc _ e1] at hk
   rw [upd_other Oc _ e2] at hk'
   exact h.inj k k' q q' g hk hk' hg hg'
 ·by_cases e:k=kn
  ·subst e
   rw [upd_same] at hk
   injection hk with hk
   subst hk
   exact hsz
  ·rw [upd_other Oc _ e] at hk
   exact h.sz k q hk
 ·have e:k≠kn:=fun e=>hN (by rw [e]; exact hF)
  rw [upd_other Oc _ e] at hk
  exact h.new k q hN hk

theorem take_ok (hm:MR c O ob w) (hm':MR ⟨w,ctOk m old c O ds,ctRefs m O ds⟩ O1 obc w') {obk obk' oc oc':OB} {Oc:OM} (h:JR (givKs ds) c w w' O O1 F obk Oc oc) (hsub:∀ k es,lookO obk k=some es→lookO obc k=some es)
  (hfr:∀ k,fr k=true→k % 8≠7∧F k) {d0 d1 d:DV} {u:Value} {id:Nat} (hv:VR w' w.heap.size (okb (ctOk m old c O ds) w.heap.size O1) O1 d0 u) (hg:giveBack obk d0=some (d1,obk')) (ht:takeIn old fr oc id d1=some (d,oc'))
  (any:Bool) (ha:any=true→lendsOwn m ds=false) (hn:any=true∨nw1 d1=true) :
  ∃ Oc',JR (givKs ds) c w w' O O1 F obk' Oc' oc'∧VR w' c.B (ok1 c O O1) Oc' d u∧(∀ l,d≠.tup l)∧∀ k,fr k=false∨d.mentions k=false→Oc' k=Oc k:=by
 have hback:=ct_back hm hm' any ha
 have plain:∀ {e:DV},VR w' c.B (ok1 c O O1) Oc e u→d=e→oc'=oc→obk'=obk→(∀ l,e≠.tup l)→∃ Oc',JR (givKs ds) c w w' O O1 F obk' Oc' oc'∧VR w' c.B (ok1 c O O1) Oc' d u∧(∀ l,d≠.tup l)∧∀ k,fr k=false∨d.mentions k=false→Oc' k=Oc k:=by
  rintro e he rfl rfl rfl hl
  exact ⟨Oc,h,he,hl,fun _ _=>rfl⟩
 cases d0 with
 | own k n lo hi =>
  simp only [giveBack] at hg
  split at hg
  ·rename_i es hlk
   split at hg
   ·rename_i hcond
    injection hg with hg
    simp only [Prod.mk.injEq] at hg
    obtain ⟨rfl,rfl⟩:=hg
    obtain ⟨h7,_,hlen,rfl,rfl⟩:=hcond
    obtain ⟨p,hO,hp,_,_,hvw,hor⟩:=hv.own_cur hm' (hsub _ _ hlk) hlen
    simp only [takeIn] at ht
    split at ht
    ·rename_i hc2
     simp only [Bool.and_eq_true,beq_iff_eq,Bool.not_eq_true',beq_eq_false_iff_ne,ne_eq] at hc2
     injection ht with ht
     simp only [Prod.mk.injEq] at ht
     obtain ⟨rfl,rfl⟩:=ht
     obtain ⟨f7,fF⟩:=hfr _ hc2.1.1
     refine ⟨upd Oc _ (some p),jr_put hm hm' h hlk h7 hO f7 hc2.2 fF (by rw [hc2.1.2]; exact hm'.sz k p hO) (hor.adopt_ old hm.size any hn (ct_low hm') hback),?_,fun l hl=>(by cases hl),fun k' hk'=>?_⟩
     ·rw [hlen]
      exact .own _ _ _ _ p _ (upd_same _ _ _) hp (Nat.zero_le _) (Nat.le_refl _) hvw
     ·refine upd_other _ _ (fun e=>?_)
      subst e
      rcases hk' with h1 | h1
      ·rw [hc2.1.1] at h1; cases h1
      ·simp [DV.mentions] at h1
    ·cases ht
   ·cases hg
  ·cases hg
 | oad k n a o =>
  unfold giveBack at hg
  split at hg
  ·cases (by assumption:DV.oad k n a o=_)
  ·rename_i heq
   cases heq
   split at hg
   ·rename_i c1 hlk
    split at hg
    ·rename_i hcond
     injection hg with hg
     simp only [Prod.mk.injEq] at hg
     obtain ⟨rfl,rfl⟩:=hg
     obtain ⟨h7,rfl⟩:=hcond
     obtain ⟨p,g,hO,hp,hgb,hve,hor⟩:=hv.oad_cur hm' (hsub _ _ hlk) rfl
     simp only [takeIn] at ht
     split at ht
     ·rename_i hc2
      simp only [Bool.and_eq_true,beq_iff_eq,Bool.not_eq_true',beq_eq_false_iff_ne,ne_eq] at hc2
      injection ht with ht
      simp only [Prod.mk.injEq] at ht
      obtain ⟨rfl,rfl⟩:=ht
      obtain ⟨f7,fF⟩:=hfr _ hc2.1.1
      have hw1:=hor.wid c1 (List.mem_singleton.2 rfl)
      refine ⟨upd Oc _ (some p),jr_put hm hm' h hlk (by omega) hO f7 hc2.2 fF (by rw [hc2.1.2,hw1]) (by simpa [adoptL] using hor.adopt_ old (B':=c.B) (ok':=ok1 c O O1) hm.size any (hn.imp _root_.id fun h=>by simpa [nw1,allNewL] using h) (ct_low hm') hback),?_,fun l hl=>(by cases hl),fun k' hk'=>?_⟩
      ·rw [hve]
       exact .oad _ 1 0 0 p g (upd_same _ _ _) hp hgb
      ·refine upd_other _ _ (fun e=>?_)
       subst e
       rcases hk' with h1 | h1
       ·rw [hc2.1.1] at h1; cases h1
       ·simp [DV.mentions] at h1
     ·cases ht
    ·cases hg
   ·cases hg
  all_goals (first | (cases (by assumption:DV.oad k n a o=_)) | cases hg)
 | nil =>
  simp only [giveBack,Option.some.injEq,Prod.mk.injEq] at hg
  obtain ⟨rfl,rfl⟩:=hg
  simp only [takeIn,Option.some.injEq,Prod.mk.injEq] at ht
  have e:=(hv.slice_ (c:=⟨w,ctOk m old c O ds,ctRefs m O ds⟩)).2.2 rfl
  refine plain (e:=.sl 1 []) ?_ (by rw [← ht.1]; rfl) ht.2.symm rfl (fun l hl=>(by cases hl))
  rw [e]
  exact .cr _ _ (.sl0 _ _ _ (Nat.zero_le _))
 | i n =>
  simp only [giveBack,Option.some.injEq,Prod.mk.injEq] at hg
  obtain ⟨rfl,rfl⟩:=hg
  simp only [takeIn,Option.some.injEq,Prod.mk.injEq] at ht
  refine plain (e:=.i n) ?_ ht.1.symm ht.2.symm rfl (fun l hl=>(by cases hl))
  rw [hv.int (c:=⟨w,ctOk m old c O ds,ctRefs m O ds⟩)]; exact .cr _ _ (.i n)
 | y n =>
  simp only [giveBack,Option.some.injEq,Prod.mk.injEq] at hg
  obtain ⟨rfl,rfl⟩:=hg
  simp only [takeIn,Option.some.injEq,Prod.mk.injEq] at ht
  refine plain (e:=.y n) ?_ ht.1.symm ht.2.symm rfl (fun l hl=>(by cases hl))
  have h1:=hv.byte_lt (c:=⟨w,ctOk m old c O ds,ctRefs m O ds⟩)
  rw [hv.byte (c:=⟨w,ctOk m old c O ds,ctRefs m O ds⟩)]; exact .cr _ _ (.y n h1)
 | b n =>
  simp only [giveBack,Option.some.injEq,Prod.mk.injEq] at hg
  obtain ⟨rfl,rfl⟩:=hg
  simp only [takeIn,Option.some.injEq,Prod.mk.injEq] at ht
  refine plain (e:=.b n) ?_ ht.1.symm ht.2.symm rfl (fun l hl=>(by cases hl))
  rw [hv.bool (c:=⟨w,ctOk m old c O ds,ctRefs m O ds⟩)]; exact .cr _ _ (.b n)
 | s n =>
  simp only [giveBack,Option.some.injEq,Prod.mk.injEq] at hg
  obtain ⟨rfl,rfl⟩:=hg
  simp only [takeIn,Option.some.injEq,Prod.mk.injEq] at ht
  refine plain (e:=.s n) ?_ ht.1.symm ht.2.symm rfl (fun l hl=>(by cases hl))
  rw [hv.str (c:=⟨w,ctOk m old c O ds,ctRefs m O ds⟩)]; exact .cr _ _ (.s n)
 | w n =>
  simp only [giveBack,Option.some.injEq,Prod.mk.injEq] at hg
  obtain ⟨rfl,rfl⟩:=hg
  simp only [takeIn,Option.some.injEq,Prod.mk.injEq] at ht
  refine plain (e:=.w n) ?_ ht.1.symm ht.2.symm rfl (fun l hl=>(by cases hl))
  rw [hv.word (c:=⟨w,ctOk m old c O ds,ctRefs m O ds⟩)]; exact .cr _ _ (.w n)
 | q n =>
  simp only [giveBack,Option.some.injEq,Prod.mk.injEq] at hg
  obtain ⟨rfl,rfl⟩:=hg
  simp only [takeIn,Option.some.injEq,Prod.mk.injEq] at ht
  refine plain (e:=.q n) ?_ ht.1.symm ht.2.symm rfl (fun l hl=>(by cases hl))
  have h1:=hv.quad (c:=⟨w,ctOk m old c O ds,ctRefs m O ds⟩)
  rw [h1.1]; exact .cr _ _ (.q n h1.2)
 | r n =>
  simp only [giveBack,Option.some.injEq,Prod.mk.injEq] at hg
  obtain ⟨rfl,rfl⟩:=hg
  simp only [takeIn,Option.some.injEq,Prod.mk.injEq] at ht
  refine plain (e:=.r n) ?_ ht.1.symm ht.2.symm rfl (fun l hl=>(by cases hl))
  rw [hv.rune (c:=⟨w,ctOk m old c O ds,ctRefs m O ds⟩)]; exact .cr _ _ (.r n)
 | st cs =>
  simp only [giveBack,Option.some.injEq,Prod.mk.injEq] at hg
  obtain ⟨rfl,rfl⟩:=hg
  simp only [takeIn,Option.some.injEq,Prod.mk.injEq] at ht
  refine plain (e:=.st (adoptL old cs)) ?_ ht.1.symm ht.2.symm rfl (fun l hl=>(by cases hl))
  obtain ⟨us,rfl,hc⟩:=hv.st' (c:=⟨w,ctOk m old c O ds,ctRefs m O ds⟩)
  refine .st _ _ (hc.adopt_ old hm.size any (hn.imp _root_.id fun h=>?_) (ct_low hm') hback)
  simp only [nw1,DV.allNew,allNewL_all,List.all_eq_true] at h
  exact h
 | sl p es =>
  simp only [giveBack,Option.some.injEq,Prod.mk.injEq] at hg
  obtain ⟨rfl,rfl⟩:=hg
  simp only [takeIn,Option.some.injEq,Prod.mk.injEq] at ht
  refine plain (e:=(DV.sl p es).adopt old) ?_ ht.1.symm ht.2.symm rfl (fun l hl=>(by cases hl))
  exact .cr _ _ ((hv.sl' (c:=⟨w,ctOk m old c O ds,ctRefs m O ds⟩)).adopt_ old hm.size any (hn.imp _root_.id fun h=>h) (ct_low hm') hback)
 | np =>
  simp only [giveBack,Option.some.injEq,Prod.mk.injEq] at hg
  obtain ⟨rfl,rfl⟩:=hg
  simp only [takeIn,Option.some.injEq,Prod.mk.injEq] at ht
  refine plain (e:=.np) ?_ ht.1.symm ht.2.symm rfl (fun l hl=>(by cases hl))
  cases hv with
  | cr _ _ h=>cases h
  | np=>exact .np
 | fn f cs =>
  simp only [giveBack,Option.some.injEq,Prod.mk.injEq] at hg
  obtain ⟨rfl,rfl⟩:=hg
  simp only [takeIn,Option.some.injEq,Prod.mk.injEq] at ht
  refine plain (e:=(DV.fn f cs).adopt old) ?_ ht.1.symm ht.2.symm rfl (fun l hl=>(by cases hl))
  have hc:CR w' w.heap.size (okb (ctOk m old c O ds) w.heap.size O1) (.fn f cs) u:=by
   cases hv with
   | cr _ _ h=>exact h
   | fn _ _ vs h=>exact CR.ofA h
  exact .cr _ _ (hc.adopt_ old hm.size any (hn.imp _root_.id fun h=>h) (ct_low hm') hback)
 | _=>simp [giveBack] at hg

theorem takeL_ok (hm:MR c O ob w) (hm':MR ⟨w,ctOk m old c O ds,ctRefs m O ds⟩ O1 obc w') (any:Bool) (ha:any=true→lendsOwn m ds=false):∀ {raws rs es:List DV} {vals:List Value} {obk ob2 oc oc':OB} {Oc:OM} {fr:Nat→Bool} {id:Nat},JR (givKs ds) c w w' O O1 F obk Oc oc→(∀ k es,lookO obk k=some es→lookO obc k=some es) →
  (∀ k,fr k=true→k % 8≠7∧F k)→raws.length=vals.length→(∀ (j:Nat) (d:DV) (u:Value),raws[j]?=some d→vals[j]?=some u→VR w' w.heap.size (okb (ctOk m old c O ds) w.heap.size O1) O1 d u) →
  giveBackL obk raws=some (rs,ob2)→takeInL old fr oc id rs=some (es,oc')→(any=true∨rs.all nw1=true) →
  ∃ Oc',JR (givKs ds) c w w' O O1 F ob2 Oc' oc'∧es.length=vals.length∧(∀ (j:Nat) (d:DV) (u:Value),es[j]?=some d→vals[j]?=some u→VR w' c.B (ok1 c O O1) Oc' d u)∧(∀ d∈es,∀ l,d≠.tup l)∧∀ k,fr k=false→Oc' k=Oc k
 | [],rs,es,vals,obk,ob2,oc,oc',Oc,fr,id,h,hsub,hfr,hl,hv,hg,ht,hn=>by
  simp only [giveBackL,Option.some.injEq,Prod.mk.injEq] at hg
  obtain ⟨rfl,rfl⟩:=hg
  simp only [takeInL,Option.some.injEq,Prod.mk.injEq] at ht
  obtain ⟨rfl,rfl⟩:=ht
  exact ⟨Oc,h,hl,fun j d u hd=>(by simp at hd),fun d hd=>(by cases hd),fun _ _=>rfl⟩
 | d0 :: raws,rs,es,vals,obk,ob2,oc,oc',Oc,fr,id,h,hsub,hfr,hl,hv,hg,ht,hn=>by
  cases vals with
  | nil=>simp at hl
  | cons u vals =>
   simp only [giveBackL] at hg
   split at hg
   ·rename_i d1 ob1 hg1
    split at hg
    ·rename_i rs' ob3 hgL
     injection hg with hg
     simp only [Prod.mk.injEq] at hg
     obtain ⟨rfl,rfl⟩:=hg
     simp only [takeInL] at ht
     split at ht
     ·rename_i e oc1 ht1
      split at ht
      ·rename_i es' oc2 htL
       injection ht with ht
       simp only [Prod.mk.injEq] at ht
       obtain ⟨rfl,rfl⟩:=ht
       have hn':(any=true∨nw1 d1=true)∧(any=true∨rs'.all nw1=true):=by
        rcases hn with h | h
        ·exact ⟨.inl h,.inl h⟩
        ·simp only [List.all_cons,Bool.and_eq_true] at h; exact ⟨.inr h.1,.inr h.2⟩
       obtain ⟨Oc1,j1,v1,nt1,s1⟩:=take_ok hm hm' h hsub hfr (hv 0 d0 u rfl rfl) hg1 ht1 any ha hn'.1
       obtain ⟨Oc2,j2,l2,v2,nt2,s2⟩:=takeL_ok hm hm' any ha j1 (fun k l hk=>hsub k l ((giveBack_sub hg1).1 k l hk)) (fun k hk=>hfr k (by simp at hk; exact hk.1)) (by simpa using hl) (fun j d u hd hu=>hv (j+1) d u (by simpa using hd) (by simpa using hu)) hgL htL hn'.2
       refine ⟨Oc2,j2,by simp [l2],fun j d x hd hx=>?_,fun d hd=>?_,fun k hk=>?_⟩
       ·cases j with
        | zero =>
         simp only [List.getElem?_cons_zero,Option.some.injEq] at hd hx
         subst hd; subst hx
         exact v1.same (fun k hk=>s2 k (by simp [hk]))
        | succ j =>
         simp only [List.getElem?_cons_succ] at hd hx
         exact v2 j d x hd hx
       ·rcases List.mem_cons.1 hd with rfl | hd
        ·exact nt1
        ·exact nt2 d hd
       ·rw [s2 k (by simp [hk]),s1 k (.inl hk)]
      ·cases ht
     ·cases ht
    ·cases hg
   ·cases hg
end

theorem callOk_of {P:Program} {Γ:Fns} (hS:FnSound P Γ):CallOk P Γ:=by
 intro c fr w O ob ob' f id vs ds d hm hF hl hv hgv he
 unfold callD at he
 split at he
 ·cases he
 ·rename_i as has
  have hg75:∀ k∈givKs ds,k % 8≠7∧k % 8≠5:=fun k hk=>by
   obtain ⟨j,n,hj⟩:=givKs_ex hk
   obtain ⟨_,hget⟩:=lendArgs_get has
   obtain ⟨e,_,hle⟩:=hget j _ hj
   simp only [lendArg] at hle
   split at hle
   ·split at hle
    ·rename_i hc; exact hc.2
    ·cases hle
   ·cases hle
  have hg7:∀ k∈givKs ds,k % 8≠7:=fun k hk=>(hg75 k hk).1
  split at he
  ·cases he
  ·rename_i r cs hΓ
   split at he
   ·rename_i hcond
    simp only [Bool.and_eq_true,Bool.not_eq_true',Bool.and_eq_false_imp,Bool.not_eq_false'] at hcond
    obtain ⟨hnew,hap⟩:=hcond
    split at he
    ·cases he
    ·rename_i obA hpr
     obtain ⟨hb,hc⟩:=hS f as (r,cs) hΓ
     refine ⟨hb,(hc w (ctOk (mutB id) (oldArgs ob ds) c O ds) (ctRefs (mutB id) O ds) (ctO (mutB id) O ds) vs (entry_of (oldArgs ob ds) (fun h=>h) hm hl hv has hap)).mono fun e w' ⟨v,hev,O1,obc,ob2,raws,vals,rs,hm',hlen,hvr,hvv,hgb,hou,hr⟩=>?_⟩
     simp only at hou hr
     have ha:(!lendsOwn (mutB id) ds)=true→lendsOwn (mutB id) ds=false:=fun h=>by simpa using h
     have hnw:(!lendsOwn (mutB id) ds)=true∨(newRes r=true∧newOuts cs=true):=by
      cases hlo:lendsOwn (mutB id) ds with
      | false=>exact .inl rfl
      | true=>exact .inr (hnew hlo)
     obtain ⟨gsub,gnt,glen⟩:=giveBackL_sub hgb
     have hj:=jr_start (F:=fun k=>fr k=true) hm hm' has hap hou gsub hpr (!lendsOwn (mutB id) ds) ha (hnw.imp _root_.id fun h=>h.2) (fun k hk=>(hg75 k hk).2)
     have hfr:∀ k,fr k=true→k % 8≠7∧fr k=true:=fun k hk=>⟨hF.a k hk,hk⟩
     by_cases h1:∃ x,rs=[x]
     ·obtain ⟨x,rfl⟩:=h1
      have hr':r=x:=hr
      subst hr'
      have hnt:=gnt r (List.mem_singleton.2 rfl)
      have he':takeIn (oldArgs ob ds) fr obA id r=some (d,ob'):=by
       cases r with
       | tup l=>exact absurd rfl (hnt l)
       | _=>exact he
      have h11:raws.length=1:=by rw [← glen]; rfl
      match raws,h11 with
      | [d0],_ =>
       match vals,hlen with
       | [u],_ =>
        simp only [giveBackL] at hgb
        split at hgb
        ·rename_i e1 ob1 hg1
         injection hgb with hgb
         simp only [Prod.mk.injEq,List.cons.injEq,and_true] at hgb
         obtain ⟨rfl,rfl⟩:=hgb
         have hn1:(!lendsOwn (mutB id) ds)=true∨nw1 e1=true:=hnw.imp _root_.id fun h=>by
          have:=h.1
          cases e1 with
          | tup l=>exact absurd rfl (hnt l)
          | _=>exact this
         obtain ⟨Oc,j1,v1,nt1,s1⟩:=take_ok hm hm' hj (fun _ _ h=>h) hfr (hvr 0 d0 u rfl rfl) hg1 he' (!lendsOwn (mutB id) ds) ha hn1
         obtain ⟨q1,q2,q3,q4⟩:=jr_end hm hm' j1 hg7 hgv
         exact ⟨v,Oc,hev,q1,by rw [hvv]; exact v1.okm (fun b hb _=>q3 b hb) q4,q2⟩
        ·cases hgb
     ·have hr':r=.tup rs:=by
       rw [hr]
       unfold single
       split
       ·rename_i x; exact absurd ⟨x,rfl⟩ h1
       ·rfl
      subst hr'
      simp only at he
      split at he
      ·rename_i es ob3 ht
       injection he with he
       simp only [Prod.mk.injEq] at he
       obtain ⟨rfl,rfl⟩:=he
       have hn1:(!lendsOwn (mutB id) ds)=true∨rs.all nw1=true:=hnw.imp _root_.id fun h=>by
        have:=h.1
        simp only [newRes,newRes_go] at this
        exact this
       obtain ⟨Oc,j1,l1,v1,nt1,s1⟩:=takeL_ok hm hm' (!lendsOwn (mutB id) ds) ha hj (fun _ _ h=>h) hfr hlen hvr hgb ht hn1
       obtain ⟨q1,q2,q3,q4⟩:=jr_end hm hm' j1 hg7 hgv
       have hvt:v=.tuple vals.toArray:=by
        rw [hvv]
        unfold singleV
        split
        ·rename_i x
         exfalso
         match rs,glen.trans hlen with
         | [y],_=>exact h1 ⟨y,rfl⟩
        ·rfl
       refine ⟨v,Oc,hev,q1,?_,q2⟩
       rw [hvt]
       refine .tup es _ (by simp [l1]) nt1 (fun j d u hd hu=>(v1 j d u hd (by simpa using hu)).okm (fun b hb _=>q3 b hb) q4)
      ·cases he
   ·cases he
end Go.Lg

namespace Go.Lg
open Go.RowKit
variable [GL]
set_option linter.unusedVariables false

/-- All functions of a table are as they are said to be. -/
theorem callN_sound {P:Program} {lf:Nat→Option LF} {dc:Array Oper→Bool} (hok:∀ f F,lf f=some F→OkF P dc f F) (hD:∀ Γ,FnSound P Γ→DrawOk P Γ dc) (hB:BackSound P):∀ n,FnSound P (callN lf n)
 | 0=>fun f args r h=>by simp [callN] at h
 | n+1=>fun f args r h=>by
  have ih:=callN_sound hok hD hB n
  simp only [callN] at h
  split at h
  ·cases h
  ·rename_i F hF
   rcases hok f F hF with ⟨h0,hB'⟩ | ⟨g,hg,hp⟩
   ·rw [h0] at h
    simp only at h
    split at h
    ·rename_i hl
     split at h
     ·rename_i S he
      exact call_spec (callOk_of ih) (hD _ ih) hB hB' hl (.inl rfl) he h
     ·rename_i S he
      exact call_spec (callOk_of ih) (hD _ ih) hB hB' hl (.inr rfl) he h
     ·cases h
    ·cases h
   ·rw [hg] at h
    exact hp args r h
theorem call_sound {P:Program} {lf:Nat→Option LF} {dc:Array Oper→Bool} (hok:∀ f F,lf f=some F→OkF P dc f F) (hD:∀ Γ,FnSound P Γ→DrawOk P Γ dc) (hB:BackSound P) {f:Nat} {args:List DV} {r:DV×List DV} (h:call lf f args=some r):CallSpec P f args r:=by
 obtain ⟨n,hn⟩:=call_iff.1 h
 exact (callN_sound hok hD hB n f args r hn).2
theorem enter_ob_plain:∀ {args:List DV} {j:Nat} {S:LS},(∀ d∈args,refW d=none)→(enter j args S).ob=S.ob
 | [],_,_,_=>rfl
 | d :: ds,j,S,h=>by
  rw [enter_cons,enter_ob_plain (fun x hx=>h x (List.mem_cons_of_mem _ hx)),h d (List.mem_cons_self ..)]
  rfl

/-- An outermost call: all that is there may be read. -/
theorem entry_top {w:World} {args:List DV} {vs:Array Value} (hg:GlobC ⟨w,fun _=>True,[]⟩) (hs:vs.size=args.length) (hn:∀ d∈args,refW d=none)
  (h:∀ (j:Nat) (d:DV) (v:Value),args[j]?=some d→vs[j]?=some v→VR w w.heap.size (okb (fun _=>True) w.heap.size fun _=>none) (fun _=>none) d v):Entry w (fun _=>True) [] (fun _=>none) args vs:=by
 refine ⟨hs,⟨rfl,rfl,rfl,Nat.le_refl _,fun _ _ _=>rfl,fun k=>(by rw [enter_ob_plain hn]; simp [lookO]),fun k p es hk=>(by cases hk),fun k k2 p p2 g hk=>(by cases hk),fun k p g hk=>(by cases hk),fun k p hk=>(by cases hk),fun r hr=>(by cases hr),hg⟩,fun j=>?_,fun r hr=>(by cases hr)⟩
 rw [enter_sl args 0 ⟨[],[]⟩ j]
 simp only [Nat.zero_le,if_true,Nat.sub_zero,look]
 cases hd:args[j]? with
 | none=>exact .dead _
 | some d =>
  have hj:j < vs.size:=by rw [hs]; exact (List.getElem?_eq_some_iff.1 hd).1
  have hv:=h j d vs[j] hd (by simp [hj])
  have e:vs.getD j undef=vs[j]:=by simp [Array.getD_eq_getD_getElem?,hj]
  rw [e]
  have hw:=hn d (List.mem_of_getElem? hd)
  cases d with
  | ref c=>cases hw
  | fr sz es=>cases hw
  | gv sz es=>cases hw
  | _=>exact hv

theorem giveBack_b {ob ob1:OB} {d:DV} {x:Bool} (h:giveBack ob d=some (.b x,ob1)):d=.b x:=by
 cases d with
 | b y=>simp only [giveBack,Option.some.injEq,Prod.mk.injEq] at h; exact h.1
 | _ =>
  exfalso
  unfold giveBack at h
  repeat' (first | (simp at h; done) | (simp_all; done) | split at h)

/-- A law that says yes. -/
theorem law_calls {P:Program} {f:FuncId} {args:List DV} {cs:List DV} {vs:Array Value} {w:World} (h:CallSpec P f args (.b true,cs)) (hE:Entry w (fun _=>True) [] (fun _=>none) args vs) :
  Calls P f vs w fun e w'=>e=.returned (.bool true)∧Below w.heap.size w w':=by
 refine (h w _ _ _ vs hE).mono fun e w' ⟨v,he,O,ob,ob2,raws,vals,rs,hm,hl,hvr,hv,hgb,_,hr⟩=>?_
 subst he
 refine ⟨?_,⟨hm.os,hm.tape,hm.output,hm.size,fun k hk=>hm.frame k hk (fun r hr=>(by cases hr))⟩⟩
 obtain ⟨_,gnt,glen⟩:=giveBackL_sub hgb
 match rs,glen,hr with
 | [x],glen,hr =>
  match raws,glen with
  | [d0],_ =>
   match vals,hl with
   | [u],_ =>
    simp only [giveBackL] at hgb
    split at hgb
    ·rename_i e1 ob1 hg1
     injection hgb with hgb
     simp only [Prod.mk.injEq,List.cons.injEq,and_true] at hgb
     obtain ⟨rfl,rfl⟩:=hgb
     have hx:e1=.b true:=hr.symm
     subst hx
     have hd:=giveBack_b hg1
     subst hd
     have hu:=(hvr 0 _ u rfl rfl).bool
     rw [hv]
     show Ending.returned u=_
     rw [hu]
    ·cases hgb
 | [],_,hr=>cases hr
 | _ :: _ :: _,_,hr=>cases hr
end Go.Lg

namespace Go.Lg
open Go.RowKit
variable [GL]
set_option linter.unusedVariables false

theorem ok_top (B:Nat) (b:Nat):okb (fun _=>True) B (fun _=>none) b:=⟨fun _=>trivial,fun k p h=>(by cases h)⟩
/-- Where no function is such as slices.Backward gives,nothing need be known of it. -/
theorem back_none {P:Program} (h:(List.range P.funcs.size).all (fun f=>!(backB P f))=true):BackSound P:=by
 intro N c m fs g i x slots ls id ops body f es S S1 a w Q hfs hi hx hg hN hls hb hsl hF hs hes hL hQ
 exfalso
 unfold backRow at hes
 split at hes
 ·rename_i f0 p es0 heq
  split at hes
  ·rename_i hc
   rw [Bool.and_eq_true] at hc
   have hb:=List.all_eq_true.1 hfs f0 (List.contains_iff_mem.1 hc.1)
   rcases Nat.lt_or_ge f0 P.funcs.size with h1 | h1
   ·have:=List.all_eq_true.1 h f0 (List.mem_range.2 h1)
    rw [hb] at this
    cases this
   ·unfold backB at hb
    rw [Array.getElem?_eq_none h1] at hb
    cases hb
  ·cases hes
 ·cases hes
end Go.Lg

namespace Go.Lg
open Go.RowKit
variable [GL]
set_option linter.unusedVariables false

def looksL (o:LOp):List Nat:=(o.args.filterMap fun | .t n=>some n | .c _=>none)++(match o.g with | some (t,_)=>[t] | none=>[])
def apartL (x y:LOp):Bool :=
 (match x.dst with
 | some d=>!(looksL y).contains d && y.dst != some d
 | none=>true) &&
 (match y.dst with
 | some d=>!(looksL x).contains d
 | none=>true)
def Ag (o:LOp) (S T:LS):Prop:=∀ t∈looksL o,Lg.look S.sl t=Lg.look T.sl t
def AgD (o:LOp) (S T:LS):Prop:=∀ x,o.dst=some x→Lg.look S.sl x=Lg.look T.sl x

theorem Ag.get {o:LOp} {S T:LS} (h:Ag o S T):o.args.map S.get=o.args.map T.get:=by
 apply List.map_congr_left
 intro x hx
 cases x with
 | c d=>rfl
 | t n=>exact h n (List.mem_append_left _ (List.mem_filterMap.2 ⟨_,hx,rfl⟩))
theorem Ag.ment {o:LOp} {S T:LS} (h:Ag o S T) (k:Nat):o.args.any (Opd.ment S k)=o.args.any (Opd.ment T k):=by
 have:∀ x∈o.args,Opd.ment S k x=Opd.ment T k x:=by
  intro x hx
  cases x with
  | c d=>rfl
  | t n =>
   have:=h n (List.mem_append_left _ (List.mem_filterMap.2 ⟨_,hx,rfl⟩))
   simp only [Opd.ment,this]
 generalize o.args=l at this
 induction l with
 | nil=>rfl
 | cons x l ih =>
  simp only [List.any_cons]
  rw [this x (List.mem_cons_self ..),ih (fun y hy=>this y (List.mem_cons_of_mem _ hy))]
theorem Ag.guard {o:LOp} {S T:LS} (h:Ag o S T) {t:Nat} {b:Bool} (hg:o.g=some (t,b)):Lg.look S.sl t=Lg.look T.sl t :=
 h t (List.mem_append_right _ (by rw [hg]; simp))
theorem subM_congr {o:LOp} {S T:LS} (h:Ag o S T) (d:DV):subM S o.args d=subM T o.args d:=by
 cases d <;> simp only [subM,h.ment]
theorem oldOk_congr {o:LOp} {S T:LS} (hd:AgD o S T) (d:DV):oldOk o S d=oldOk o T d:=by
 unfold oldOk
 cases hx:o.dst with
 | none=>rfl
 | some x=>simp only [hd x hx]
theorem okStep_congr {q:Mode} (hq:q=.free∨q=.strong) {o:LOp} {S T:LS} (h:Ag o S T) (hd:AgD o S T):okStep q o S=okStep q o T:=by
 have h1:∀ d,oldOk o S d=oldOk o T d:=by
  intro d
  unfold oldOk
  cases hx:o.dst with
  | none=>rfl
  | some x=>simp only [hd x hx]
 have h2:quietGo o S=quietGo o T:=by
  unfold quietGo
  rw [h.get]
  cases effP (fun _=>false) o.k (o.args.map T.get) [] with
  | none=>rfl
  | some p=>simp only [subM_congr h,h1]
 cases q with
 | free=>rfl
 | weak=>rcases hq with h | h <;> cases h
 | foot L=>rcases hq with h | h <;> cases h
 | feed L1 L2 F=>rcases hq with h | h <;> cases h
 | late L=>rcases hq with h | h <;> cases h
 | pair L=>rcases hq with h | h <;> cases h
 | pairf L1 L2 F=>rcases hq with h | h <;> cases h
 | ps L=>rcases hq with h | h <;> cases h
 | mix=>rcases hq with h | h <;> cases h
 | strong =>
  unfold okStep quiet
  rw [h1,h2]
  cases hg:o.g with
  | none=>rfl
  | some p =>
   obtain ⟨t,b⟩:=p
   simp only [h.guard hg]
theorem quiet_congr {o:LOp} (hk:o.k.isW=false) {S T:LS} (h:Ag o S T) (hd:AgD o S T):quiet o S=quiet o T:=by
 have:=okStep_congr (q:=.strong) (.inr rfl) h hd
 simpa [okStep,hk] using this
theorem clears_congr {L:List Nat} {o:LOp} {S T:LS} (h:Ag o S T):clears L o S=clears L o T:=by
 unfold clears
 rw [h.get]
 cases hg:o.g with
 | none=>rfl
 | some p =>
  obtain ⟨t,b⟩:=p
  simp only [h.guard hg]
theorem adds_congr {o:LOp} {S T:LS} (h:Ag o S T):adds o S=adds o T:=by
 unfold adds
 rw [h.get]
 cases hg:o.g with
 | none=>rfl
 | some p =>
  obtain ⟨t,b⟩:=p
  simp only [h.guard hg]

theorem mentions_put {k t:Nat} {d:DV}:∀ {e:Env},(∀ j,(Lg.look e t).mentions j=true→d.mentions j=true)→Env.mentions k (Lg.put e t d)=(d.mentions k || Env.mentions k e)
 | [],_=>by simp [Lg.put,Env.mentions]
 | (j,x) :: r,h=>by
  simp only [Lg.put]
  split
  ·simp [Env.mentions]
  ·split
   ·rename_i h1 h2
    subst h2
    simp only [Lg.look,if_true] at h
    have hk:=h k
    simp only [Env.mentions,List.any_cons]
    cases hx:x.mentions k with
    | true=>simp [hk hx]
    | false=>simp
   ·rename_i h1 h2
    simp only [Lg.look,if_neg (Ne.symm h2)] at h
    have ih:=mentions_put (k:=k) (d:=d) h
    simp only [Env.mentions,List.any_cons] at ih ⊢
    rw [ih]
    cases x.mentions k <;> cases d.mentions k <;> simp

theorem put_comm {x y:Nat} {a b:DV} (h:x≠y):∀ e:Env,Lg.put (Lg.put e x a) y b=Lg.put (Lg.put e y b) x a
 | []=>by
  simp only [Lg.put]
  grind [Lg.put]
 | (k,c) :: r=>by
  have ih:=put_comm (a:=a) (b:=b) h r
  grind [Lg.put]
end Go.Lg

namespace Go.Lg
open Go.RowKit
variable [GL]
set_option linter.unusedVariables false

theorem effP_fr {k:K} (hk:k.isW=false) (fr fr':Nat→Bool) (xs:List DV) (ob:OB):effP fr' k xs ob=effP fr k xs ob:=by
 cases k <;> first | rfl | (simp [K.isW] at hk; done) | skip
 rename_i v id
 cases v <;> first | rfl | (simp [K.isW] at hk; done)
theorem effP_ob {fr:Nat→Bool} {k:K} (hk:k.isW=false) {xs:List DV} {ob ob':OB} {d:DV} (h:effP fr k xs ob=some (d,ob')):ob'=ob:=by
 by_cases hb:∃ g,k=.conv .b2s g
 ·obtain ⟨g,rfl⟩:=hb
  simp only [effP] at h
  split at h
  ·simp only [b2sO] at h
   split at h
   ·simp only [Option.map_eq_some_iff,Prod.mk.injEq] at h
    obtain ⟨_,_,_,rfl⟩:=h
    rfl
   ·cases h
  ·cases h
 cases k with
 | conv v id =>
  cases v <;> simp only [K.isW,Bool.true_eq_false] at hk <;> simp only [effP] at h
  all_goals (first | (exact absurd ⟨_,rfl⟩ hb) | grind [Option.map_eq_some_iff])
 | _ =>
  simp only [K.isW,Bool.true_eq_false] at hk
  all_goals (simp only [effP] at h; grind [Option.map_eq_some_iff])
theorem sliceD_nil {x:DV} {sz:Nat} {a h:Option Int} {d:DV} (e:sliceD [] x sz a h=some d) (ob:OB):sliceD ob x sz a h=some d:=by
 cases x <;> simp_all [sliceD,lookO]
theorem elems_nil {x:DV} {es:List DV} (e:elems [] x=some es) (ob:OB):elems ob x=some es:=by
 cases x <;> simp_all [elems,lookO]
theorem effP_eqn {fr fr':Nat→Bool} {g:Bool} {xs:List DV} {ob ob' o1:OB} {d:DV} (hl:∀ x∈xs,∀ es,elems ob x=some es→elems ob' x=some es) (h:effP fr (.eqn g) xs ob=some (d,o1)):effP fr' (.eqn g) xs ob'=some (d,ob'):=by
 simp only [effP] at h ⊢
 split at h
 ·rename_i x
  split at h
  ·injection h with h; simp only [Prod.mk.injEq] at h; obtain ⟨rfl,rfl⟩:=h; rfl
  ·split at h
   ·rename_i hx _ es hes
    split at h
    ·cases h
    ·rename_i hne
     injection h with h; simp only [Prod.mk.injEq] at h; obtain ⟨rfl,rfl⟩:=h
     rw [hl x (List.mem_cons_self ..) es hes]
     cases x <;> simp_all
   ·cases h
 ·cases h
theorem effP_b2s {fr fr':Nat→Bool} {g:Nat} {xs:List DV} {ob ob' o1:OB} {d:DV} (hl:∀ x∈xs,∀ es,elems ob x=some es→elems ob' x=some es) (h:effP fr (.conv .b2s g) xs ob=some (d,o1)):effP fr' (.conv .b2s g) xs ob'=some (d,ob'):=by
 simp only [effP] at h ⊢
 split at h
 ·rename_i x
  cases hes:elems ob x with
  | none=>rw [hes] at h; cases h
  | some es =>
   rw [hes] at h
   rw [hl x (List.mem_cons_self ..) es hes]
   simp only [b2sO] at h ⊢
   cases hy:ysOf es with
   | none=>rw [hy] at h; cases h
   | some l =>
    rw [hy] at h
    simp only [Option.map_some,Option.some.injEq,Prod.mk.injEq] at h ⊢
    exact ⟨h.1,trivial⟩
 ·cases h
theorem effP_pure {fr0:Nat→Bool} {k:K} (hk:k.isW=false) {xs:List DV} {o0:OB} {d:DV} (h:effP fr0 k xs []=some (d,o0)) (fr:Nat→Bool) (ob:OB):effP fr k xs ob=some (d,ob):=by
 by_cases hg:∃ g,k=.eqn g
 ·obtain ⟨g,rfl⟩:=hg
  exact effP_eqn (fun x _ es e=>elems_nil e ob) h
 by_cases hb:∃ g,k=.conv .b2s g
 ·obtain ⟨g,rfl⟩:=hb
  exact effP_b2s (fun x _ es e=>elems_nil e ob) h
 cases k <;> simp only [K.isW,Bool.true_eq_false] at hk <;> simp only [effP] at h ⊢
 all_goals (repeat' (first | (exact absurd ⟨_,rfl⟩ hg) | (simp_all [elems,lookO,sliceD]; done) | split at h | split | (grind [Option.map_eq_some_iff,elems,lookO,sliceD_nil]; done)))
theorem sliceD_loc {x:DV} {sz:Nat} {a h:Option Int} {ob ob':OB} (hl:∀ id,x.mentions id=true→lookO ob' id=lookO ob id):sliceD ob' x sz a h=sliceD ob x sz a h:=by
 cases x <;> try rfl
 simp only [sliceD]
 rw [hl _ (by simp [DV.mentions])]
theorem elems_loc {x:DV} {ob ob':OB} (hl:∀ id,x.mentions id=true→lookO ob' id=lookO ob id):elems ob' x=elems ob x:=by
 cases x <;> try rfl
 simp only [elems]
 rw [hl _ (by simp [DV.mentions])]
/-- What an operation that makes and changes nothing looks at. -/
theorem effP_loc {fr:Nat→Bool} {k:K} (hk:k.isW=false) {xs:List DV} {ob ob':OB} (hl:∀ x∈xs,∀ id,x.mentions id=true→lookO ob' id=lookO ob id) {d:DV} {o1:OB} (h:effP fr k xs ob=some (d,o1)):effP fr k xs ob'=some (d,ob'):=by
 have base:∀ {r:Option (DV×OB)},r=some (d,o1)→(∀ d1 o2,r=some (d1,o2)→effP fr k xs ob'=some (d1,ob'))→effP fr k xs ob'=some (d,ob'):=fun e f=>f _ _ e
 cases k with
 | eqn g=>exact effP_eqn (fun x hx es e=>by rw [elems_loc (hl x hx)]; exact e) h
 | conv v id =>
  by_cases hv:v=.b2s
  ·subst hv
   exact effP_b2s (fun x hx es e=>by rw [elems_loc (hl x hx)]; exact e) h
  ·cases v <;> simp only [K.isW,Bool.true_eq_false] at hk
   all_goals (simp only [effP] at h ⊢; repeat' (first | (exact absurd rfl hv) | (simp_all; done) | split at h | (grind [Option.map_eq_some_iff]; done)))
 | idxa sz =>
  simp only [effP] at h ⊢
  split at h
  ·split at h
   ·split at h
    ·split at h
     ·injection h with h; simp only [Prod.mk.injEq] at h; obtain ⟨rfl,rfl⟩:=h; simp_all
     ·cases h
    ·cases h
   ·cases h
  ·rename_i k m lo hi n
   rw [elems_loc (hl _ (List.mem_cons_self ..))]
   split at h
   ·split at h
    ·injection h with h; simp only [Prod.mk.injEq] at h; obtain ⟨rfl,rfl⟩:=h; simp_all
    ·cases h
   ·cases h
  ·cases h
 | load sz agg =>
  simp only [effP] at h ⊢
  split at h
  ·rw [Option.map_eq_some_iff] at h
   obtain ⟨e,he,h⟩:=h
   simp only [Prod.mk.injEq] at h
   obtain ⟨rfl,rfl⟩:=h
   rw [he]; rfl
  ·rename_i k n a q
   rw [hl _ (List.mem_cons_self ..) k (by simp [DV.mentions])]
   split at h
   ·split at h
    ·split at h
     ·rw [Option.map_eq_some_iff] at h
      obtain ⟨e,he,h⟩:=h
      simp only [Prod.mk.injEq] at h
      obtain ⟨rfl,rfl⟩:=h
      simp_all
     ·cases h
    ·cases h
   ·cases h
  ·cases h
 | slice lo hi sz =>
  simp only [effP] at h ⊢
  split at h
  ·rename_i x r
   have e:∀ a h,sliceD ob' x sz a h=sliceD ob x sz a h:=fun a h=>sliceD_loc (hl x (List.mem_cons_self ..))
   simp only [e]
   split at h
   ·rw [Option.map_eq_some_iff] at h
    obtain ⟨e,he,h⟩:=h
    simp only [Prod.mk.injEq] at h
    obtain ⟨rfl,rfl⟩:=h
    rw [he]; rfl
   ·cases h
  ·cases h
 | _ =>
  simp only [K.isW,Bool.true_eq_false] at hk
  all_goals (simp only [effP] at h ⊢; repeat' (first | (simp_all; done) | split at h | (grind [Option.map_eq_some_iff]; done)))
def Shape (ob ob':OB):Prop:=∀ id,(lookO ob' id).map List.length=(lookO ob id).map List.length
theorem Shape.get {ob ob':OB} (h:Shape ob ob') {id:Nat} {es:List DV} (he:lookO ob id=some es):∃ es',lookO ob' id=some es'∧es'.length=es.length:=by
 have:=h id
 rw [he] at this
 cases hx:lookO ob' id with
 | none=>rw [hx] at this; cases this
 | some es'=>rw [hx] at this; simp at this; exact ⟨es',rfl,this⟩
theorem Shape.symm {ob ob':OB} (h:Shape ob ob'):Shape ob' ob:=fun id=>(h id).symm
theorem sliceD_shape {x:DV} {sz:Nat} {a h:Option Int} {ob ob':OB} (hl:Shape ob ob') {d:DV} (e:sliceD ob x sz a h=some d):sliceD ob' x sz a h=some d:=by
 cases x with
 | own k n lo hi =>
  simp only [sliceD] at e ⊢
  cases hx:lookO ob k with
  | none=>rw [hx] at e; cases e
  | some es =>
   obtain ⟨es',h1,h2⟩:=hl.get hx
   rw [hx] at e
   rw [h1]
   simp only [h2] at e ⊢
   exact e
 | _=>exact e
theorem effP_shape {fr:Nat→Bool} {k:K} (hk:k.isW=false) (hs:k.shape=true) {xs:List DV} {ob ob':OB} (hl:Shape ob ob') {d:DV} {o1:OB} (h:effP fr k xs ob=some (d,o1)):effP fr k xs ob'=some (d,ob'):=by
 cases k with
 | eqn g=>cases hs
 | load sz agg=>cases hs
 | conv v id =>
  cases v <;> simp only [K.isW,Bool.true_eq_false] at hk
  all_goals first | (cases hs; done) | (simp only [effP] at h ⊢; repeat' (first | (simp_all; done) | split at h | (grind [Option.map_eq_some_iff]; done)))
 | idxa sz =>
  simp only [effP] at h ⊢
  split at h
  ·split at h
   ·split at h
    ·split at h
     ·injection h with h; simp only [Prod.mk.injEq] at h; obtain ⟨rfl,rfl⟩:=h; simp_all
     ·cases h
    ·cases h
   ·cases h
  ·rename_i k m lo hi n
   simp only [elems] at h ⊢
   cases hx:lookO ob k with
   | none=>rw [hx] at h; simp at h
   | some es =>
    obtain ⟨es',h1,h2⟩:=hl.get hx
    rw [hx] at h
    rw [h1]
    simp only [h2] at h ⊢
    by_cases hc:es.length=m∧lo≤hi∧hi≤m
    ·simp only [if_pos hc] at h ⊢
     have hlen:(List.drop lo (List.take hi es')).length=(List.drop lo (List.take hi es)).length:=by simp [h2]
     rw [hlen]
     split at h
     ·rename_i hc2
      rw [if_pos hc2]
      injection h with h; simp only [Prod.mk.injEq] at h; obtain ⟨rfl,rfl⟩:=h; rfl
     ·cases h
    ·simp only [if_neg hc] at h; cases h
  ·cases h
 | slice lo hi sz =>
  simp only [effP] at h ⊢
  split at h
  ·rename_i x r
   split at h
   ·rename_i a b hb
    rw [Option.map_eq_some_iff] at h
    obtain ⟨e,he,h⟩:=h
    simp only [Prod.mk.injEq] at h
    obtain ⟨rfl,rfl⟩:=h
    simp only [sliceD_shape hl he]
    rfl
   ·cases h
  ·cases h
 | _ =>
  simp only [K.isW,Bool.true_eq_false] at hk
  all_goals (simp only [effP] at h ⊢; repeat' (first | (simp_all; done) | split at h | (grind [Option.map_eq_some_iff]; done)))
end Go.Lg

namespace Go.Lg
open Go.RowKit
variable [GL]
set_option linter.unusedVariables false

theorem eff_nonW {Γ:Fns} {fr:Nat→Bool} {k:K} (hk:k.isW=false) (xs:List DV) (ob:OB):eff Γ fr k xs ob=effP fr k xs ob:=by
 cases k <;> first | rfl | (simp [K.isW] at hk; done)
def frS (S:LS):Nat→Bool:=fun id=>!(id % 8 == 7) && !Env.mentions id S.sl
def goL (Γ:Fns) (o:LOp) (S:LS):Option LS:=match eff Γ (frS S) o.k (o.args.map S.get) S.ob with
 | some (v,ob)=>some { sl:=putD S.sl o.dst v,ob }
 | none=>none
theorem stepL_go (Γ:Fns) (o:LOp) (S:LS):stepL Γ o S=match o.g with
 | none=>goL Γ o S
 | some (t,want)=>match Lg.look S.sl t with
  | .b x=>if x=want then goL Γ o S else some { S with sl:=putD S.sl o.dst .und }
  | .und=>some { S with sl:=putD S.sl o.dst .und }
  | _=>none:=rfl

/-- A step is the same where it looks at the same. 'A': which other frames. -/
theorem step_lift {Γ:Fns} {o:LOp} {S S1:LS} {A:LS→Prop} (hA:∀ T,A T→Ag o S T) (h:stepL Γ o S=some S1)
  (hgo:goL Γ o S=some S1→∃ d,S1.sl=putD S.sl o.dst d∧∀ T,A T→goL Γ o T=some ⟨putD T.sl o.dst d,S1.ob⟩) (hob:∀ T,A T→T.ob=S.ob) :
  ∃ d,S1.sl=putD S.sl o.dst d∧∀ T,A T→stepL Γ o T=some ⟨putD T.sl o.dst d,S1.ob⟩:=by
 rw [stepL_go] at h
 cases hg:o.g with
 | none =>
  rw [hg] at h
  obtain ⟨d,h1,h2⟩:=hgo h
  exact ⟨d,h1,fun T hT=>by rw [stepL_go,hg]; exact h2 T hT⟩
 | some p =>
  obtain ⟨t,want⟩:=p
  rw [hg] at h
  simp only at h
  cases hl:Lg.look S.sl t with
  | b x =>
   rw [hl] at h
   simp only at h
   by_cases hx:x=want
   ·rw [if_pos hx] at h
    obtain ⟨d,h1,h2⟩:=hgo h
    refine ⟨d,h1,fun T hT=>?_⟩
    rw [stepL_go,hg]
    simp only
    rw [← (hA T hT).guard hg,hl]
    simp only
    rw [if_pos hx]
    exact h2 T hT
   ·rw [if_neg hx] at h
    injection h with h
    subst h
    refine ⟨.und,rfl,fun T hT=>?_⟩
    rw [stepL_go,hg]
    simp only
    rw [← (hA T hT).guard hg,hl]
    simp only
    rw [if_neg hx,hob T hT]
  | und =>
   rw [hl] at h
   injection h with h
   subst h
   refine ⟨.und,rfl,fun T hT=>?_⟩
   rw [stepL_go,hg]
   simp only
   rw [← (hA T hT).guard hg,hl,hob T hT]
  | _=>rw [hl] at h; cases h

theorem stepL_any {Γ:Fns} {o:LOp} {S S1:LS} (h:stepL Γ o S=some S1) :
  ∃ d,S1.sl=putD S.sl o.dst d∧∀ T,(Ag o S T∧T.ob=S.ob∧∀ k,Env.mentions k T.sl=Env.mentions k S.sl)→stepL Γ o T=some ⟨putD T.sl o.dst d,S1.ob⟩:=by
 refine step_lift (fun T hT=>hT.1) h (fun hgo=>?_) (fun T hT=>hT.2.1)
 unfold goL at hgo
 split at hgo
 ·rename_i v ob he
  injection hgo with hgo
  subst hgo
  refine ⟨v,rfl,fun T hT=>?_⟩
  have e:frS T=frS S:=by funext id; unfold frS; rw [hT.2.2]
  unfold goL
  rw [← hT.1.get,hT.2.1,e,he]
 ·cases hgo

theorem stepL_nonW {Γ:Fns} {o:LOp} {S S1:LS} (hk:o.k.isW=false) (h:stepL Γ o S=some S1) :
  S1.ob=S.ob∧∃ d,S1.sl=putD S.sl o.dst d∧∀ T,(Ag o S T∧T.ob=S.ob)→stepL Γ o T=some ⟨putD T.sl o.dst d,S1.ob⟩:=by
 have hob:S1.ob=S.ob:=by
  rw [stepL_go] at h
  have hgo:goL Γ o S=some S1→S1.ob=S.ob:=fun hgo=>by
   unfold goL at hgo
   split at hgo
   ·rename_i v ob he
    injection hgo with hgo
    subst hgo
    rw [eff_nonW hk] at he
    exact effP_ob hk he
   ·cases hgo
  split at h
  ·exact hgo h
  ·split at h
   ·split at h
    ·exact hgo h
    ·injection h with h; subst h; rfl
   ·injection h with h; subst h; rfl
   ·cases h
 refine ⟨hob,step_lift (fun T hT=>hT.1) h (fun hgo=>?_) (fun T hT=>hT.2)⟩
 unfold goL at hgo
 split at hgo
 ·rename_i v ob he
  injection hgo with hgo
  subst hgo
  refine ⟨v,rfl,fun T hT=>?_⟩
  unfold goL
  rw [← hT.1.get,hT.2]
  rw [eff_nonW hk] at he ⊢
  rw [effP_fr hk (frS S),he]
 ·cases hgo

theorem noM_ment {d:DV} (h:d.noM=true) (k:Nat):d.mentions k=false:=by cases d <;> simp_all [DV.noM,DV.mentions]
theorem subM_ment {o:LOp} {S:LS} {d:DV} (h:subM S o.args d=true) {k:Nat} (hk:d.mentions k=true):Env.mentions k S.sl=true:=by
 have key:o.args.any (Opd.ment S k)=true→Env.mentions k S.sl=true:=by
  intro ha
  obtain ⟨x,hx,hm⟩:=List.any_eq_true.1 ha
  cases x with
  | c d=>cases hm
  | t n =>
   simp only [Opd.ment] at hm
   cases he:Env.mentions k S.sl with
   | true=>rfl
   | false=>rw [mentions_of he n] at hm; cases hm
 cases d
 case tup ds =>
  obtain ⟨x,hx,hm⟩:=List.any_eq_true.1 hk
  have hn:=List.all_eq_true.1 h x hx
  cases x <;> simp_all [DV.noM]
 all_goals simp only [DV.mentions,Bool.false_eq_true,subM] at hk h
 all_goals (have e:=beq_iff_eq.1 hk; subst e; exact key h)

theorem oldOk_ment {o:LOp} {S:LS} {d:DV} (h:oldOk o S d=true) {x:Nat} (hx:o.dst=some x) (j:Nat) (hj:(Lg.look S.sl x).mentions j=true):d.mentions j=true:=by
 simp only [oldOk,hx] at h
 cases hl:Lg.look S.sl x <;> rw [hl] at h hj <;> simp only [DV.mentions,Bool.false_eq_true,beq_iff_eq] at hj h
 ·subst hj; exact h
 ·subst hj; exact h
theorem quiet_ment {o:LOp} {S T:LS} {d:DV} (hold:oldOk o S d=true) (hd:AgD o S T) (h:∀ k,d.mentions k=true→Env.mentions k T.sl=true) (k:Nat):Env.mentions k (putD T.sl o.dst d)=Env.mentions k T.sl:=by
 unfold putD
 cases hx:o.dst with
 | none=>rfl
 | some x =>
  have ho:=oldOk_ment hold hx
  rw [hd x hx] at ho
  simp only
  rw [mentions_put ho]
  cases hk:d.mentions k with
  | true=>simp [h k hk]
  | false=>simp

theorem stepL_quiet {Γ:Fns} {o:LOp} {S S1:LS} (hk:o.k.isW=false) (hq:quiet o S=true) (h:stepL Γ o S=some S1) :
  ∃ d,S1.sl=putD S.sl o.dst d∧(∀ T,Ag o S T→stepL Γ o T=some ⟨putD T.sl o.dst d,T.ob⟩)∧∀ T,Ag o S T→AgD o S T→∀ k,Env.mentions k (putD T.sl o.dst d)=Env.mentions k T.sl:=by
 unfold quiet at hq
 have hgo:quietGo o S=true→goL Γ o S=some S1→∃ d,S1.sl=putD S.sl o.dst d∧(∀ T,Ag o S T→goL Γ o T=some ⟨putD T.sl o.dst d,T.ob⟩)∧∀ T,Ag o S T→AgD o S T→∀ k,Env.mentions k (putD T.sl o.dst d)=Env.mentions k T.sl:=by
  intro hqg hg
  unfold quietGo at hqg
  split at hqg
  ·rename_i d o0 he
   rw [Bool.and_eq_true] at hqg
   obtain ⟨hqg,hold⟩:=hqg
   have hp:=effP_pure hk he
   unfold goL at hg
   rw [eff_nonW hk,hp] at hg
   simp only [Option.some.injEq] at hg
   refine ⟨d,by rw [← hg],fun T ha=>?_,fun T ha hd k=>?_⟩
   ·unfold goL
    rw [← ha.get,eff_nonW hk,hp]
   ·refine quiet_ment hold hd (fun k hkm=>?_) k
    rw [subM_congr ha] at hqg
    exact subM_ment hqg hkm
  ·cases hqg
 have hund:oldOk o S .und=true→∀ T,Ag o S T→AgD o S T→∀ k,Env.mentions k (putD T.sl o.dst .und)=Env.mentions k T.sl:=fun hold T ha hd k=>quiet_ment hold hd (fun k h=>by simp [DV.mentions] at h) k
 rw [stepL_go] at h
 cases hg:o.g with
 | none =>
  rw [hg] at h hq
  obtain ⟨d,h1,h2,h3⟩:=hgo hq h
  exact ⟨d,h1,fun T hT=>by rw [stepL_go,hg]; exact h2 T hT,h3⟩
 | some p =>
  obtain ⟨t,want⟩:=p
  rw [hg] at h hq
  simp only at h hq
  cases hl:Lg.look S.sl t with
  | b x =>
   rw [hl] at h hq
   simp only at h hq
   by_cases hx:x=want
   ·rw [if_pos hx] at h hq
    obtain ⟨d,h1,h2,h3⟩:=hgo hq h
    refine ⟨d,h1,fun T hT=>?_,h3⟩
    rw [stepL_go,hg]
    simp only
    rw [← hT.guard hg,hl]
    simp only
    rw [if_pos hx]
    exact h2 T hT
   ·rw [if_neg hx] at h hq
    injection h with h
    subst h
    refine ⟨.und,rfl,fun T hT=>?_,hund hq⟩
    rw [stepL_go,hg]
    simp only
    rw [← hT.guard hg,hl]
    simp only
    rw [if_neg hx]
  | und =>
   rw [hl] at h hq
   injection h with h
   subst h
   refine ⟨.und,rfl,fun T hT=>?_,hund hq⟩
   rw [stepL_go,hg]
   simp only
   rw [← hT.guard hg,hl]
  | _=>rw [hl] at h; cases h
end Go.Lg
