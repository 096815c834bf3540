/- Part D of a logical reading of translated Go: what a frame holds is said by lists, and each operation is proved against the model. No conditions. -/
import Derived.Test.YtffghabijlfpeaaDoorLgC
import Derived.Still
import Derived.WalkKit
import Derived.ProofKit
import Derived.OpenShut
import Derived.ShutString
import Derived.Deep.Slices
import Derived.Deep.Fields
import Derived.ChangeSame
set_option linter.unusedSectionVars false
set_option linter.unusedVariables false
set_option linter.unusedSimpArgs false
namespace Go.Lg
open Go.RowKit
variable [GL]
set_option linter.unusedVariables false

theorem apartL_spec {x y:LOp} (h:apartL x y=true):(∀ d,x.dst=some d→d∉looksL y)∧(∀ d,x.dst=some d→y.dst≠some d)∧(∀ d,y.dst=some d→d∉looksL x):=by
 refine ⟨fun d hd=>?_,fun d hd=>?_,fun d hd=>?_⟩ <;> simp [apartL,hd] at h
 ·exact h.1.1
 ·exact h.1.2
 ·exact h.2
theorem look_putD (e:Env) (x:Option Nat) (d:DV) (t:Nat) (h:x≠some t):Lg.look (putD e x d) t=Lg.look e t:=by
 cases x with
 | none=>rfl
 | some y=>simp only [putD]; rw [look_put,if_neg (fun e=>h (by rw [e]))]
theorem putD_comm {x y:Option Nat} {a b:DV} (h:∀ d,x=some d→y≠some d) (e:Env):putD (putD e x a) y b=putD (putD e y b) x a:=by
 cases x with
 | none=>rfl
 | some x =>
  cases y with
  | none=>rfl
  | some y=>exact put_comm (fun e=>h x rfl (by rw [e])) e
theorem ag_step {S S1:LS} {x:Option Nat} {d:DV} (h:S1.sl=putD S.sl x d) {i:LOp} (hx:∀ d,x=some d→d∉looksL i):Ag i S1 S∧Ag i S S1:=by
 have:Ag i S1 S:=fun t ht=>by rw [h]; exact look_putD _ _ _ _ (fun e=>hx t e ht)
 exact ⟨this,fun t ht=>(this t ht).symm⟩
theorem agD_step {S S1:LS} {x:Option Nat} {d:DV} (h:S1.sl=putD S.sl x d) {i:LOp} (hx:∀ d,x=some d→i.dst≠some d):AgD i S1 S∧AgD i S S1:=by
 have:AgD i S1 S:=fun t ht=>by rw [h]; exact look_putD _ _ _ _ (fun e=>hx t e ht)
 exact ⟨this,fun t ht=>(this t ht).symm⟩
theorem ls_eq {S:LS} {e:Env} {ob:OB} (h1:S.sl=e) (h2:S.ob=ob):(⟨e,ob⟩:LS)=S:=by cases S; simp_all

/-- Two neighbours,exchanged. -/
theorem swap_ok {Γ:Fns} {q:Mode} (hqw:q=.free∨q=.strong) {i j:LOp} (hap:apartL j i=true) (hw:¬ (j.k.isW=true∧i.k.isW=true)) (hq:j.k.isW=true∨i.k.isW=true→q=.strong) {S S1 S2:LS} (oj:okStep q j S=true) (sj:stepL Γ j S=some S1) (oi:okStep q i S1=true) (si:stepL Γ i S1=some S2) :
  ∃ T1,okStep q i S=true∧stepL Γ i S=some T1∧okStep q j T1=true∧stepL Γ j T1=some S2:=by
 obtain ⟨p1,p2,p3⟩:=apartL_spec hap
 have p2':∀ d,i.dst=some d→j.dst≠some d:=fun d hi hj=>p2 d hj hi
 obtain ⟨dj,ej,fj⟩:=stepL_any sj
 have ai:=ag_step ej p1
 have bi:=agD_step ej p2
 have oi':okStep q i S=true:=by rw [← okStep_congr hqw ai.1 bi.1]; exact oi
 have fin:∀ (di:DV) (T1:LS),S2.sl=putD S1.sl i.dst di→T1.sl=putD S.sl i.dst di→(∃ e,stepL Γ j T1=some ⟨putD T1.sl j.dst e,S2.ob⟩∧S1.sl=putD S.sl j.dst e)→okStep q j T1=true∧stepL Γ j T1=some S2:=by
  rintro di T1 e2 e1 ⟨e,hs,he⟩
  have aj:=ag_step e1 p3
  have bj:=agD_step e1 p2'
  refine ⟨by rw [okStep_congr hqw aj.1 bj.1]; exact oj,?_⟩
  rw [hs]
  congr 1
  exact ls_eq (by rw [e2,e1,he]; exact putD_comm p2 S.sl) rfl
 cases hi:i.k.isW with
 | false =>
  obtain ⟨obi,di,ei,fi⟩:=stepL_nonW hi si
  cases hj:j.k.isW with
  | false =>
   obtain ⟨obj,dj',ej',fj'⟩:=stepL_nonW hj sj
   have s1:=fi S ⟨ai.1,obj.symm⟩
   refine ⟨⟨putD S.sl i.dst di,S2.ob⟩,oi',s1,fin di _ ei rfl ⟨dj',?_,ej'⟩⟩
   have aj:=ag_step (S:=S) (S1:=⟨putD S.sl i.dst di,S2.ob⟩) rfl p3
   rw [fj' ⟨putD S.sl i.dst di,S2.ob⟩ ⟨aj.2,by rw [obi,obj]⟩,obi]
  | true =>
   have hq1:=hq (.inl hj)
   subst hq1
   have hqi:quiet i S1=true:=by simpa [okStep,hi] using oi
   obtain ⟨di',ei',gi,mi⟩:=stepL_quiet hi hqi si
   have s1:=gi S ai.1
   refine ⟨⟨putD S.sl i.dst di',S.ob⟩,oi',s1,fin di' _ ei' rfl ⟨dj,?_,ej⟩⟩
   have aj:=ag_step (S:=S) (S1:=⟨putD S.sl i.dst di',S.ob⟩) rfl p3
   rw [fj ⟨putD S.sl i.dst di',S.ob⟩ ⟨aj.2,rfl,fun k=>mi S ai.1 bi.1 k⟩,obi]
 | true =>
  have hj:j.k.isW=false:=by
   cases hj:j.k.isW with
   | false=>rfl
   | true=>exact absurd ⟨hj,hi⟩ hw
  have hq1:=hq (.inr hi)
  subst hq1
  have hqj:quiet j S=true:=by simpa [okStep,hj] using oj
  obtain ⟨obj,_⟩:=stepL_nonW hj sj
  obtain ⟨dj',ej',gj,mj⟩:=stepL_quiet hj hqj sj
  obtain ⟨di,ei,fi⟩:=stepL_any si
  have s1:=fi S ⟨ai.1,obj.symm,fun k=>by rw [ej']; exact (mj S (fun t _=>rfl) (fun t _=>rfl) k).symm⟩
  refine ⟨⟨putD S.sl i.dst di,S2.ob⟩,oi',s1,fin di _ ei rfl ⟨dj',?_,ej'⟩⟩
  have aj:=ag_step (S:=S) (S1:=⟨putD S.sl i.dst di,S2.ob⟩) rfl p3
  rw [gj ⟨putD S.sl i.dst di,S2.ob⟩ aj.2]

/-- What a step that only adds leaves as it was. -/
theorem settle_keep {ob ob1:OB} {v v':DV} (h:settle ob v=some (v',ob1)) (hv:ownKs [v]=[]):ob1=ob:=by
 cases v <;> simp_all [settle,ownKs]
theorem settleL_keep:∀ {vs vs':List DV} {ob ob1:OB},settleL ob vs=some (vs',ob1)→ownKs vs=[]→ob1=ob
 | [],vs',ob,ob1,h,_=>by simp only [settleL,Option.some.injEq,Prod.mk.injEq] at h; exact h.2.symm
 | v :: vs,vs',ob,ob1,h,hv=>by
  simp only [settleL] at h
  split at h
  ·rename_i e ob2 he
   split at h
   ·rename_i es ob3 hes
    injection h with h
    simp only [Prod.mk.injEq] at h
    obtain ⟨rfl,rfl⟩:=h
    have h1:ownKs [v]=[]∧ownKs vs=[]:=by cases v <;> simp_all [ownKs]
    have e1:=settle_keep he h1.1
    have e2:=settleL_keep hes h1.2
    rw [e2,e1]
   ·cases h
  ·cases h
theorem takeIn_keep {old:Bool} {fr:Nat→Bool} {ob ob1:OB} {id:Nat} {d e:DV} (h:takeIn old fr ob id d=some (e,ob1)) {k:Nat} (hk:fr k=false):lookO ob1 k=lookO ob k:=by
 have put:∀ (i:Nat) (es:List DV),fr i=true→lookO (putO ob i es) k=lookO ob k:=fun i es hi=>by
  rw [lookO_put,if_neg (fun e=>by rw [e,hi] at hk; cases hk)]
 cases d <;> simp only [takeIn] at h
 all_goals first
  | (injection h with h; simp only [Prod.mk.injEq] at h; rw [← h.2]; done)
  | (cases h; done)
  | (
   split at h
   ·rename_i hc
    rw [Bool.and_eq_true,Bool.and_eq_true] at hc
    injection h with h; simp only [Prod.mk.injEq] at h; rw [← h.2]; exact put _ _ hc.1.1
   ·cases h)
theorem takeInL_keep:∀ {ds es:List DV} {old:Bool} {fr:Nat→Bool} {ob ob1:OB} {id:Nat},takeInL old fr ob id ds=some (es,ob1)→∀ {k:Nat},fr k=false→lookO ob1 k=lookO ob k
 | [],es,old,fr,ob,ob1,id,h,k,hk=>by simp only [takeInL,Option.some.injEq,Prod.mk.injEq] at h; rw [← h.2]
 | d :: ds,es,old,fr,ob,ob1,id,h,k,hk=>by
  simp only [takeInL] at h
  split at h
  ·rename_i e ob2 he
   split at h
   ·rename_i es' ob3 hes
    injection h with h
    simp only [Prod.mk.injEq] at h
    obtain ⟨rfl,rfl⟩:=h
    rw [takeInL_keep hes (by simp [hk]),takeIn_keep he hk]
   ·cases h
  ·cases h
theorem putRefs_keepk:∀ {m old:Bool} {ds cs:List DV} {ob ob1:OB} {k:Nat},putRefs m old ob ds cs=some ob1→k∉refKs m ds→lookO ob1 k=lookO ob k
 | m,old,[],[],ob,ob1,k,h,_=>by simp only [putRefs,Option.some.injEq] at h; rw [h]
 | m,old,[],_ :: _,ob,ob1,k,h,_=>by cases h
 | m,old,d :: ds,cs,ob,ob1,k,h,hr=>by
  rw [refKs_cons] at hr
  cases hro:refOf m d with
  | none =>
   rw [hro] at hr
   rw [putRefs_cons hro] at h
   exact putRefs_keepk h hr
  | some k0 =>
   rw [hro] at hr
   simp only [List.mem_cons,not_or] at hr
   cases d with
   | oad k1 n a o =>
    have e:k1=k0:=by simpa [refOf] using hro
    subst e
    cases cs with
    | nil=>cases h
    | cons c cs =>
     simp only [putRefs] at h
     rw [putRefs_keepk h hr.2,lookO_put,if_neg hr.1]
   | own k1 n lo hi =>
    cases m with
    | false=>cases hro
    | true =>
     have e:k1=k0:=by simpa [refOf] using hro
     subst e
     simp only [putRefs,if_true] at h
     split at h
     ·rw [putRefs_keepk h hr.2,lookO_put,if_neg hr.1]
     ·cases h
   | giv k1 n =>
    have e:k1=k0:=by simpa [refOf] using hro
    subst e
    simp only [putRefs] at h
    rw [putRefs_keepk h hr.2,lookO_drop,if_neg hr.1]
   | _=>cases hro
theorem callD_keepk {Γ:Fns} {S:LS} {fr:Nat→Bool} {f id:Nat} {xs:List DV} {v:DV} {ob:OB} (he:callD Γ fr f id xs S.ob=some (v,ob)) {k:Nat} (hfr:fr k=false) (hno:k∉refKs (mutB id) xs):lookO ob k=lookO S.ob k:=by
 unfold callD at he
 split at he
 ·cases he
 ·split at he
  ·cases he
  ·rename_i r outs _
   split at he
   ·split at he
    ·cases he
    ·rename_i ob1 hp
     have e1:=putRefs_keepk (k:=k) hp hno
     split at he
     ·split at he
      ·rename_i es ob2 ht
       injection he with he
       simp only [Prod.mk.injEq] at he
       rw [← he.2,takeInL_keep ht hfr,e1]
      ·cases he
     ·rw [takeIn_keep he hfr,e1]
   ·cases he
theorem refKs_append (m:Bool):∀ xs ys:List DV,refKs m (xs++ys)=refKs m xs++refKs m ys
 | [],_=>rfl
 | x :: xs,ys=>by
  rw [List.cons_append,refKs_cons,refKs_cons,refKs_append m xs ys]
  cases refOf m x <;> rfl
theorem refKs_caps (m:Bool):∀ {cs:List DV},capsOk cs=true→refKs m cs=[]
 | [],_=>rfl
 | c :: cs,h=>by
  simp only [capsOk,List.all_cons,Bool.and_eq_true] at h
  have:refOf m c=none:=by cases c <;> first | rfl | (simp [DV.cap,DV.cell] at h; done)
  rw [refKs_cons,this]
  exact refKs_caps m h.2
theorem fnArgs_plain {cs:List DV} (h:∀ r,cs≠.dead :: r) (ys:List DV):fnArgs cs ys=ys++cs∧fnOk cs=capsOk cs:=by
 cases cs with
 | nil=>exact ⟨rfl,rfl⟩
 | cons e r =>
  cases e <;> first | exact ⟨rfl,rfl⟩ | exact absurd rfl (h r)
theorem dead_or (cs:List DV):(∃ r,cs=.dead :: r)∨∀ r,cs≠.dead :: r:=by
 by_cases h:∃ r,cs=.dead :: r
 ·exact .inl h
 ·exact .inr fun r e=>h ⟨r,e⟩
theorem refKs_fnArgs (m:Bool) {cs ys:List DV} (h:fnOk cs=true):refKs m (fnArgs cs ys)=refKs m ys:=by
 rcases dead_or cs with ⟨r,rfl⟩ | hd
 ·rfl
 ·obtain ⟨h1,h2⟩:=fnArgs_plain hd ys
  rw [h2] at h
  rw [h1,refKs_append,refKs_caps m h,List.append_nil]
theorem mentions_fnArgs {cs ys:List DV} {k:Nat} (h:fnOk cs=true) (hy:∀ x∈ys,x.mentions k=false):∀ x∈fnArgs cs ys,x.mentions k=false:=by
 rcases dead_or cs with ⟨r,rfl⟩ | hd
 ·intro x hx
  rcases List.mem_cons.1 hx with rfl | hx
  ·rfl
  ·exact hy x hx
 ·obtain ⟨h1,h2⟩:=fnArgs_plain hd ys
  rw [h2] at h
  rw [h1]
  intro x hm
  rcases List.mem_append.1 hm with hm | hm
  ·exact hy x hm
  ·have:=List.all_eq_true.1 h x hm
   cases x <;> first | rfl | (simp [DV.cap,DV.cell] at this; done)
theorem goL_keep {Γ:Fns} {o:LOp} {S S1:LS} (hw:o.k.isW=true) (ha:addsK o.k (o.args.map S.get)=true) (h:goL Γ o S=some S1) {k:Nat} (hk:Env.mentions k S.sl=true):lookO S1.ob k=lookO S.ob k:=by
 unfold goL at h
 split at h
 ·rename_i v ob he
  injection h with h
  subst h
  have hfr:frS S k=false:=by simp [frS,hk]
  show lookO ob k=lookO S.ob k
  have put:∀ (i:Nat) (es:List DV) (o1:OB),frS S i=true→o1=S.ob→lookO (putO o1 i es) k=lookO S.ob k:=fun i es o1 hi ho=>by
   rw [ho,lookO_put,if_neg (fun e=>by rw [e,hi] at hfr; cases hfr)]
  generalize o.args.map S.get=xs at *
  generalize o.k=kk at *
  cases kk with
  | call f id =>
   rw [eff_call] at he
   exact callD_keepk he hfr (by
    have h0:refKs (mutB id) xs=[]:=by simpa [addsK] using ha
    rw [h0]; simp)
  | calld id =>
   rw [eff_calld] at he
   obtain ⟨f,cs,ys,rfl,hc,he⟩:=calldD_some he
   exact callD_keepk he hfr (by
    have h0:refKs (mutB id) (.fn f cs :: ys)=[]:=by simpa [addsK] using ha
    have h1:refKs (mutB id) ys=[]:=h0
    rw [refKs_fnArgs _ hc,h1]; simp)
  | newnil id =>
   simp only [eff,effP] at he
   split at he
   ·split at he
    ·rename_i hf; injection he with he; simp only [Prod.mk.injEq] at he; rw [← he.2]; exact put _ _ _ hf rfl
    ·cases he
   ·cases he
  | make id sz z =>
   simp only [eff,effP] at he
   split at he
   ·split at he
    ·rename_i hf; injection he with he; simp only [Prod.mk.injEq] at he; rw [← he.2]; exact put _ _ _ hf.1 rfl
    ·cases he
   ·cases he
  | alloc id z =>
   simp only [eff,effP] at he
   split at he
   ·split at he
    ·rename_i hf; injection he with he; simp only [Prod.mk.injEq] at he; rw [← he.2]; exact put _ _ _ hf rfl
    ·cases he
   ·cases he
  | box id =>
   simp only [eff,effP] at he
   split at he
   ·rename_i v0
    split at he
    ·rename_i v' ob1 hs
     have e1:=settle_keep hs (by simpa [addsK] using ha)
     split at he
     ·rename_i hf; injection he with he; simp only [Prod.mk.injEq] at he; rw [← he.2]; exact put _ _ _ hf.1 e1
     ·cases he
    ·cases he
   ·cases he
  | build z ps =>
   simp only [eff,effP] at he
   split at he
   ·rename_i vs ob1 hs
    have e1:=settleL_keep hs (by simpa [addsK] using ha)
    rw [Option.map_eq_some_iff] at he
    obtain ⟨_,_,he⟩:=he
    simp only [Prod.mk.injEq] at he
    rw [← he.2,e1]
   ·cases he
  | bslice id len sz z ps =>
   simp only [eff,effP] at he
   split at he
   ·rename_i vs ob1 hs
    have e1:=settleL_keep hs (by simpa [addsK] using ha)
    split at he
    ·rename_i hf
     rw [Option.map_eq_some_iff] at he
     obtain ⟨_,_,he⟩:=he
     simp only [Prod.mk.injEq] at he
     rw [← he.2]
     exact put _ _ _ hf.1 e1
    ·cases he
   ·cases he
  | _=>simp [addsK] at ha
 ·cases h
theorem stepL_keep {Γ:Fns} {o:LOp} {S S1:LS} (hw:o.k.isW=true) (ha:adds o S=true) (h:stepL Γ o S=some S1) {k:Nat} (hk:Env.mentions k S.sl=true):lookO S1.ob k=lookO S.ob k:=by
 rw [stepL_go] at h
 unfold adds at ha
 cases hg:o.g with
 | none=>rw [hg] at h ha; exact goL_keep hw ha h hk
 | some p =>
  obtain ⟨t,want⟩:=p
  rw [hg] at h ha
  simp only at h ha
  cases hl:Lg.look S.sl t with
  | b x =>
   rw [hl] at h ha
   simp only at h ha
   by_cases hx:x=want
   ·rw [if_pos hx] at h ha; exact goL_keep hw ha h hk
   ·rw [if_neg hx] at h; injection h with h; subst h; rfl
  | und=>rw [hl] at h; injection h with h; subst h; rfl
  | _=>rw [hl] at h; cases h

/-- What a step leaves as it was. -/
theorem settle_keepk {ob ob1:OB} {v v':DV} {k:Nat} (h:settle ob v=some (v',ob1)) (hv:k∉ownKs [v]):lookO ob1 k=lookO ob k:=by
 cases v with
 | own k0 n lo hi =>
  simp only [settle] at h
  split at h
  ·split at h
   ·cases h
   ·injection h with h
    simp only [Prod.mk.injEq] at h
    rw [← h.2,lookO_drop,if_neg (fun e=>hv (by rw [e]; simp [ownKs]))]
  ·cases h
 | _=>rw [settle_keep h (by rfl)]
theorem settleL_keepk:∀ {vs vs':List DV} {ob ob1:OB} {k:Nat},settleL ob vs=some (vs',ob1)→k∉ownKs vs→lookO ob1 k=lookO ob k
 | [],vs',ob,ob1,k,h,_=>by simp only [settleL,Option.some.injEq,Prod.mk.injEq] at h; rw [h.2]
 | v :: vs,vs',ob,ob1,k,h,hv=>by
  simp only [settleL] at h
  split at h
  ·rename_i e ob2 he
   split at h
   ·rename_i es ob3 hes
    injection h with h
    simp only [Prod.mk.injEq] at h
    obtain ⟨rfl,rfl⟩:=h
    have h1:k∉ownKs [v]∧k∉ownKs vs:=by cases v <;> simp_all [ownKs]
    rw [settleL_keepk hes h1.2,settle_keepk he h1.1]
   ·cases h
  ·cases h
theorem capL_keepk:∀ {vs vs':List DV} {ob ob1:OB} {k:Nat},capL ob vs=some (vs',ob1)→k∉refKs false vs→lookO ob1 k=lookO ob k
 | [],vs',ob,ob1,k,h,_=>by simp only [capL,Option.some.injEq,Prod.mk.injEq] at h; rw [h.2]
 | v :: vs,vs',ob,ob1,k,h,hv=>by
  simp only [capL] at h
  split at h
  ·rename_i e ob2 he
   split at h
   ·rename_i es ob3 hes
    injection h with h
    simp only [Prod.mk.injEq] at h
    obtain ⟨rfl,rfl⟩:=h
    rw [refKs_cons] at hv
    have h2:k∉refKs false vs:=fun hk=>hv (by split <;> simp [hk])
    rw [capL_keepk hes h2]
    unfold capArg at he
    split at he
    ·rename_i k0 n
     have hne:k≠k0:=fun e=>hv (by rw [e]; simp [refOf])
     split at he
     ·split at he
      ·injection he with he
       simp only [Prod.mk.injEq] at he
       rw [← he.2,lookO_drop,if_neg hne]
      ·cases he
     ·cases he
    ·injection he with he
     simp only [Prod.mk.injEq] at he
     rw [← he.2]
    ·split at he
     ·injection he with he
      simp only [Prod.mk.injEq] at he
      rw [← he.2]
     ·cases he
   ·cases h
  ·cases h
theorem clearL_spec {L ks:List Nat} (h:clearL L ks=true) {k:Nat} (hk:k∈L):k∉ks:=by
 intro hm
 have:=List.all_eq_true.1 h k hm
 simp [hk] at this
theorem giveL_keep {k:Nat}:∀ {xs ys:List DV} {ob ob1:OB},giveL ob xs=some (ys,ob1)→k∉ownKs xs→lookO ob1 k=lookO ob k
 | [],ys,ob,ob1,h,_=>by
  simp only [giveL,Option.some.injEq,Prod.mk.injEq] at h
  rw [h.2]
 | x :: xs,ys,ob,ob1,h,hn=>by
  by_cases hown:∃ k n lo hi,x=.own k n lo hi
  ·obtain ⟨k1,n,lo,hi,rfl⟩:=hown
   simp only [ownKs,List.mem_cons,not_or] at hn
   simp only [giveL] at h
   split at h
   ·rename_i e ob2 hs
    split at h
    ·rename_i es ob3 hg2
     simp only [Option.some.injEq,Prod.mk.injEq] at h
     obtain ⟨_,rfl⟩:=h
     rw [giveL_keep hg2 hn.2]
     simp only [settle] at hs
     split at hs
     ·split at hs
      ·cases hs
      ·simp only [Option.some.injEq,Prod.mk.injEq] at hs
       rw [← hs.2,lookO_drop,if_neg hn.1]
     ·cases hs
    ·cases h
   ·cases h
  ·have h':(match giveL ob xs with
     | some (es,ob2)=>some (x :: es,ob2)
     | none=>none)=some (ys,ob1):=by
    cases x <;> first | exact h | exact absurd ⟨_,_,_,_,rfl⟩ hown
   have hn':k∉ownKs xs:=by cases x <;> first | exact hn | exact absurd ⟨_,_,_,_,rfl⟩ hown
   split at h'
   ·rename_i es ob2 hg2
    simp only [Option.some.injEq,Prod.mk.injEq] at h'
    obtain ⟨_,rfl⟩:=h'
    exact giveL_keep hg2 hn'
   ·cases h'
theorem giveL_refs {m:Bool} {k:Nat}:∀ {xs ys:List DV} {ob ob1:OB},giveL ob xs=some (ys,ob1)→k∉refKs m xs→k∉refKs m ys
 | [],ys,ob,ob1,h,_=>by
  simp only [giveL,Option.some.injEq,Prod.mk.injEq] at h
  rw [← h.1]; simp [refKs]
 | x :: xs,ys,ob,ob1,h,hn=>by
  rw [refKs_cons] at hn
  by_cases hown:∃ k n lo hi,x=.own k n lo hi
  ·obtain ⟨k1,n,lo,hi,rfl⟩:=hown
   simp only [giveL] at h
   split at h
   ·rename_i e ob2 hs
    split at h
    ·rename_i es ob3 hg2
     simp only [Option.some.injEq,Prod.mk.injEq] at h
     obtain ⟨rfl,_⟩:=h
     have hn':k∉refKs m xs:=by
      cases hr:refOf m (DV.own k1 n lo hi) with
      | none=>rw [hr] at hn; exact hn
      | some j=>rw [hr] at hn; exact fun hm=>hn (List.mem_cons_of_mem _ hm)
     have he:refOf m e=none:=by
      simp only [settle] at hs
      split at hs
      ·split at hs
       ·cases hs
       ·simp only [Option.some.injEq,Prod.mk.injEq] at hs
        rw [← hs.1]; rfl
      ·cases hs
     rw [refKs_cons,he]
     exact giveL_refs hg2 hn'
    ·cases h
   ·cases h
  ·have h':(match giveL ob xs with
     | some (es,ob2)=>some (x :: es,ob2)
     | none=>none)=some (ys,ob1):=by
    cases x <;> first | exact h | exact absurd ⟨_,_,_,_,rfl⟩ hown
   split at h'
   ·rename_i es ob2 hg2
    simp only [Option.some.injEq,Prod.mk.injEq] at h'
    obtain ⟨rfl,_⟩:=h'
    rw [refKs_cons]
    cases hr:refOf m x with
    | none=>rw [hr] at hn; exact giveL_refs hg2 hn
    | some j =>
     rw [hr] at hn
     intro hm
     rcases List.mem_cons.1 hm with e | hm
     ·exact hn (by rw [e]; exact List.mem_cons_self ..)
     ·exact giveL_refs hg2 (fun q=>hn (List.mem_cons_of_mem _ q)) hm
   ·cases h'
theorem callD_keepk' {Γ:Fns} {S:LS} {f id:Nat} {xs:List DV} {v:DV} {ob1 ob:OB} (he:callD Γ (frS S) f id xs ob1=some (v,ob)) {k:Nat} (hfr:frS S k=false) (hno:k∉refKs (mutB id) xs):lookO ob k=lookO ob1 k :=
 callD_keepk (S:=⟨S.sl,ob1⟩) he hfr hno
theorem givAt_refs {m:Bool} {ms:List Nat} {k:Nat}:∀ {xs:List DV} {j:Nat},k∉refKs m xs→k∉ownKs xs→k∉refKs m (givAt ms j xs)
 | [],j,_,_=>by simp [givAt,refKs]
 | x :: xs,j,h1,h2=>by
  rw [refKs_cons] at h1
  have t1:k∉refKs m xs:=fun h=>h1 (by split <;> simp [h])
  have t2:k∉ownKs xs:=fun h=>h2 (by cases x <;> simp [ownKs,h])
  have ih:=givAt_refs (m:=m) (ms:=ms) (j:=j+1) t1 t2
  simp only [givAt]
  rw [refKs_cons]
  split
  ·rename_i k0 hk0
   simp only [List.mem_cons,not_or]
   refine ⟨fun e=>?_,ih⟩
   subst e
   split at hk0
   ·cases x with
    | own k1 n lo hi =>
     simp only [DV.toGiv] at hk0
     split at hk0
     ·have:k1=k:=by simpa [refOf] using hk0
      subst this
      exact h2 (by simp [ownKs])
     ·cases hk0
    | _=>cases hk0
   ·rw [hk0] at h1
    exact h1 (List.mem_cons_self ..)
  ·exact ih
theorem goL_keepL {Γ:Fns} {L:List Nat} {o:LOp} {S S1:LS} (hw:o.k.isW=true) (ha:clearL L (hitK o.k (o.args.map S.get))=true) (h:goL Γ o S=some S1) {k:Nat} (hk:Env.mentions k S.sl=true) (hL:k∈L):lookO S1.ob k=lookO S.ob k:=by
 unfold goL at h
 split at h
 ·rename_i v ob he
  injection h with h
  subst h
  have hfr:frS S k=false:=by simp [frS,hk]
  show lookO ob k=lookO S.ob k
  have hno:=clearL_spec ha hL
  have put:∀ (i:Nat) (es:List DV) (o1:OB),frS S i=true→lookO o1 k=lookO S.ob k→lookO (putO o1 i es) k=lookO S.ob k:=fun i es o1 hi ho=>by
   rw [lookO_put,if_neg (fun e=>by rw [e,hi] at hfr; cases hfr),ho]
  generalize o.args.map S.get=xs at *
  generalize o.k=kk at *
  cases kk with
  | call f id =>
   rw [eff_call] at he
   exact callD_keepk he hfr hno
  | calld id =>
   rw [eff_calld] at he
   obtain ⟨f,cs,ys,rfl,hc,he⟩:=calldD_some he
   exact callD_keepk he hfr (by rw [refKs_fnArgs _ hc]; exact hno)
  | callg f id =>
   rw [eff_callg] at he
   obtain ⟨ys,ob1,hg,he⟩:=callgD_some he
   simp only [hitK,List.mem_append,not_or] at hno
   rw [callD_keepk' he hfr (giveL_refs hg hno.1),giveL_keep hg hno.2]
  | callm f ms id =>
   rw [eff_callm] at he
   simp only [hitK,List.mem_append,not_or] at hno
   exact callD_keepk he (by unfold givFr; rw [hfr]; rfl) (givAt_refs hno.1 hno.2)
  | mkfn f =>
   simp only [eff,effP] at he
   split at he
   ·rename_i cs ob1 hs
    injection he with he
    simp only [Prod.mk.injEq] at he
    rw [← he.2]
    exact capL_keepk hs hno
   ·cases he
  | newnil id =>
   simp only [eff,effP] at he
   split at he
   ·split at he
    ·rename_i hf; injection he with he; simp only [Prod.mk.injEq] at he; rw [← he.2]; exact put _ _ _ hf rfl
    ·cases he
   ·cases he
  | make id sz z =>
   simp only [eff,effP] at he
   split at he
   ·split at he
    ·rename_i hf; injection he with he; simp only [Prod.mk.injEq] at he; rw [← he.2]; exact put _ _ _ hf.1 rfl
    ·cases he
   ·cases he
  | alloc id z =>
   simp only [eff,effP] at he
   split at he
   ·split at he
    ·rename_i hf; injection he with he; simp only [Prod.mk.injEq] at he; rw [← he.2]; exact put _ _ _ hf rfl
    ·cases he
   ·cases he
  | box id =>
   simp only [eff,effP] at he
   split at he
   ·rename_i v0
    split at he
    ·rename_i v' ob1 hs
     have e1:=settle_keepk hs hno
     split at he
     ·rename_i hf; injection he with he; simp only [Prod.mk.injEq] at he; rw [← he.2]; exact put _ _ _ hf.1 e1
     ·cases he
    ·cases he
   ·cases he
  | build z ps =>
   simp only [eff,effP] at he
   split at he
   ·rename_i vs ob1 hs
    have e1:=settleL_keepk (k:=k) hs hno
    rw [Option.map_eq_some_iff] at he
    obtain ⟨_,_,he⟩:=he
    simp only [Prod.mk.injEq] at he
    rw [← he.2,e1]
   ·cases he
  | bslice id len sz z ps =>
   simp only [eff,effP] at he
   split at he
   ·rename_i vs ob1 hs
    have e1:=settleL_keepk (k:=k) hs hno
    split at he
    ·rename_i hf
     rw [Option.map_eq_some_iff] at he
     obtain ⟨_,_,he⟩:=he
     simp only [Prod.mk.injEq] at he
     rw [← he.2]
     exact put _ _ _ hf.1 e1
    ·cases he
   ·cases he
  | app id sz =>
   simp only [eff,effP] at he
   split at he
   ·rename_i s x
    split at he
    ·split at he
     ·split at he
      ·split at he
       ·rename_i hf; injection he with he; simp only [Prod.mk.injEq] at he; rw [← he.2]; exact put _ _ _ hf.1 rfl
       ·cases he
      ·rename_i k0 n h0
       have hne:k≠k0:=fun e=>hno (by rw [e]; simp [hitK,ownKs])
       split at he
       ·split at he
        ·injection he with he; simp only [Prod.mk.injEq] at he; rw [← he.2,lookO_put,if_neg hne]
        ·split at he
         ·split at he
          ·injection he with he; simp only [Prod.mk.injEq] at he; rw [← he.2,lookO_put,if_neg hne]
          ·injection he with he; simp only [Prod.mk.injEq] at he; rw [← he.2,lookO_put,if_neg hne]
         ·cases he
       ·cases he
      ·rename_i k0 n
       have hne:k≠k0:=fun e=>hno (by rw [e]; simp [hitK,ownKs,celKs])
       split at he
       ·split at he
        ·injection he with he; simp only [Prod.mk.injEq] at he; rw [← he.2,lookO_put,if_neg hne]
        ·cases he
       ·cases he
      ·cases he
     ·cases he
    ·cases he
   ·cases he
  | store sz =>
   simp only [eff,effP] at he
   split at he
   ·rename_i k0 n a q v0
    have hne:k≠k0:=fun e=>hno (by rw [e]; simp [hitK,refKs])
    split at he
    ·rename_i v' ob1 hs
     have e1:=settle_keepk (k:=k) hs (fun hm=>hno (by
      have:ownKs (.oad k0 n a q :: [v0])=ownKs [v0]:=rfl
      simp only [hitK,List.mem_append,this]
      exact .inr hm))
     split at he
     ·split at he
      ·split at he
       ·split at he
        ·injection he with he; simp only [Prod.mk.injEq] at he; rw [← he.2,lookO_put,if_neg hne,e1]
        ·cases he
       ·cases he
      ·cases he
     ·cases he
    ·cases he
   ·cases he
  | conv cv id=>cases cv <;> first | (simp [K.isW] at hw; done) | (simp only [eff,effP] at he; cases he)
  | _=>simp [K.isW] at hw
 ·cases h
theorem stepL_keepL {Γ:Fns} {L:List Nat} {o:LOp} {S S1:LS} (hw:o.k.isW=true) (ha:clears L o S=true) (h:stepL Γ o S=some S1) {k:Nat} (hk:Env.mentions k S.sl=true) (hL:k∈L):lookO S1.ob k=lookO S.ob k:=by
 rw [stepL_go] at h
 unfold clears at ha
 cases hg:o.g with
 | none=>rw [hg] at h ha; exact goL_keepL hw ha h hk hL
 | some p =>
  obtain ⟨t,want⟩:=p
  rw [hg] at h ha
  simp only at h ha
  cases hl:Lg.look S.sl t with
  | b x =>
   rw [hl] at h ha
   simp only at h ha
   by_cases hx:x=want
   ·rw [if_pos hx] at h ha; exact goL_keepL hw ha h hk hL
   ·rw [if_neg hx] at h; injection h with h; subst h; rfl
  | und=>rw [hl] at h; injection h with h; subst h; rfl
  | _=>rw [hl] at h; cases h
theorem argsIn_spec {L:List Nat} {xs:List DV} (h:argsIn L xs=true) {x:DV} (hx:x∈xs) {k:Nat} (hk:x.mentions k=true):k∈L:=by
 have:=List.all_eq_true.1 h x hx
 cases x <;> simp_all [inL,DV.mentions]

/-- A step that looks at objects,but makes and changes none. -/
theorem args_ment {o:LOp} {S:LS} {x:DV} (hx:x∈o.args.map S.get) {k:Nat} (hk:x.mentions k=true):(∃ c,Opd.c c∈o.args∧c=x)∨Env.mentions k S.sl=true:=by
 obtain ⟨a,ha,rfl⟩:=List.mem_map.1 hx
 cases a with
 | c d=>exact .inl ⟨d,ha,rfl⟩
 | t n =>
  right
  cases he:Env.mentions k S.sl with
  | true=>rfl
  | false =>
   have:=mentions_of he n
   have hk':(Lg.look S.sl n).mentions k=true:=hk
   rw [this] at hk'; cases hk'
/-- No constant speaks of an object. -/
def plainO (o:LOp):Bool:=o.args.all fun | .c d=>d.noM | .t _=>true
theorem args_plain {o:LOp} (hp:plainO o=true) {S:LS} {x:DV} (hx:x∈o.args.map S.get) {k:Nat} (hk:x.mentions k=true):Env.mentions k S.sl=true:=by
 rcases args_ment hx hk with ⟨c,hc,rfl⟩ | h
 ·have:=List.all_eq_true.1 hp _ hc
  simp only at this
  rw [noM_ment this] at hk; cases hk
 ·exact h
theorem stepL_wquietA {Γ:Fns} {o:LOp} {S S1:LS} {M:Nat→Prop} (hk:o.k.isW=false) (hM:∀ x∈o.args.map S.get,∀ k,x.mentions k=true→M k) (hq:wquiet o S=true) (h:stepL Γ o S=some S1) :
  ∃ d,S1.sl=putD S.sl o.dst d∧(∀ T,Ag o S T→(∀ k,M k→lookO T.ob k=lookO S.ob k)→stepL Γ o T=some ⟨putD T.sl o.dst d,T.ob⟩) ∧
   (∀ T,Ag o S T→AgD o S T→(∀ k,M k→lookO T.ob k=lookO S.ob k)→wquiet o T=true)∧∀ T,Ag o S T→AgD o S T→∀ k,Env.mentions k (putD T.sl o.dst d)=Env.mentions k T.sl:=by
 unfold wquiet at hq
 have hgo:wquietGo o S=true→goL Γ o S=some S1→∃ d,S1.sl=putD S.sl o.dst d∧(∀ T,Ag o S T→(∀ k,M k→lookO T.ob k=lookO S.ob k)→goL Γ o T=some ⟨putD T.sl o.dst d,T.ob⟩) ∧
   (∀ T,Ag o S T→AgD o S T→(∀ k,M k→lookO T.ob k=lookO S.ob k)→wquietGo o T=true)∧∀ T,Ag o S T→AgD o S T→∀ k,Env.mentions k (putD T.sl o.dst d)=Env.mentions k T.sl:=by
  intro hqg hg
  unfold wquietGo at hqg
  split at hqg
  ·rename_i d o0 he
   rw [Bool.and_eq_true] at hqg
   obtain ⟨hsub,hold⟩:=hqg
   have e0:=effP_ob hk he
   subst e0
   have hS:effP (frS S) o.k (o.args.map S.get) S.ob=some (d,S.ob):=by rw [effP_fr hk (fun _=>false),he]
   unfold goL at hg
   rw [eff_nonW hk,hS] at hg
   simp only [Option.some.injEq] at hg
   have loc:∀ T,Ag o S T→(∀ k,M k→lookO T.ob k=lookO S.ob k)→effP (fun _=>false) o.k (o.args.map T.get) T.ob=some (d,T.ob):=by
    intro T ha hl
    rw [← ha.get]
    exact effP_loc hk (fun x hx id hid=>hl id (hM x hx id hid)) he
   refine ⟨d,by rw [← hg],fun T ha hl=>?_,fun T ha hd hl=>?_,fun T ha hd k=>?_⟩
   ·unfold goL
    rw [eff_nonW hk,effP_fr hk (fun _=>false),loc T ha hl]
   ·unfold wquietGo
    rw [loc T ha hl]
    simp only
    rw [← subM_congr ha,← oldOk_congr hd,hsub,hold]; rfl
   ·refine quiet_ment hold hd (fun k hkm=>?_) k
    rw [subM_congr ha] at hsub
    exact subM_ment hsub hkm
  ·cases hqg
 have hund:oldOk o S .und=true→∀ T,Ag o S T→AgD o S T→∀ k,Env.mentions k (putD T.sl o.dst .und)=Env.mentions k T.sl:=fun hold T ha hd k=>quiet_ment hold hd (fun k h=>by simp [DV.mentions] at h) k
 rw [stepL_go] at h
 cases hg:o.g with
 | none =>
  rw [hg] at h hq
  obtain ⟨d,h1,h2,h3,h4⟩:=hgo hq h
  exact ⟨d,h1,fun T hT hl=>by rw [stepL_go,hg]; exact h2 T hT hl,fun T hT hD hl=>by unfold wquiet; rw [hg]; exact h3 T hT hD hl,h4⟩
 | some p =>
  obtain ⟨t,want⟩:=p
  rw [hg] at h hq
  simp only at h hq
  cases hl:Lg.look S.sl t with
  | b x =>
   rw [hl] at h hq
   simp only at h hq
   by_cases hx:x=want
   ·rw [if_pos hx] at h hq
    obtain ⟨d,h1,h2,h3,h4⟩:=hgo hq h
    refine ⟨d,h1,fun T hT hll=>?_,fun T hT hD hll=>?_,h4⟩
    ·rw [stepL_go,hg]
     simp only
     rw [← hT.guard hg,hl]
     simp only
     rw [if_pos hx]
     exact h2 T hT hll
    ·unfold wquiet
     rw [hg]
     simp only
     rw [← hT.guard hg,hl]
     simp only
     rw [if_pos hx]
     exact h3 T hT hD hll
   ·rw [if_neg hx] at h hq
    injection h with h
    subst h
    refine ⟨.und,rfl,fun T hT _=>?_,fun T hT hD _=>?_,hund hq⟩
    ·rw [stepL_go,hg]
     simp only
     rw [← hT.guard hg,hl]
     simp only
     rw [if_neg hx]
    ·unfold wquiet
     rw [hg]
     simp only
     rw [← hT.guard hg,hl]
     simp only
     rw [if_neg hx,← oldOk_congr hD]; exact hq
  | und =>
   rw [hl] at h hq
   injection h with h
   subst h
   refine ⟨.und,rfl,fun T hT _=>?_,fun T hT hD _=>?_,hund hq⟩
   ·rw [stepL_go,hg]
    simp only
    rw [← hT.guard hg,hl]
   ·unfold wquiet
    rw [hg]
    simp only
    rw [← hT.guard hg,hl]
    simp only
    rw [← oldOk_congr hD]; exact hq
  | _=>rw [hl] at h; cases h

theorem stepL_wquietR {Γ:Fns} {o:LOp} {S S1:LS} {R:LS→Prop} (hk:o.k.isW=false) (hR:∀ T,Ag o S T→R T→∀ d,effP (fun _=>false) o.k (o.args.map S.get) S.ob=some (d,S.ob)→effP (fun _=>false) o.k (o.args.map T.get) T.ob=some (d,T.ob)) (hq:wquiet o S=true) (h:stepL Γ o S=some S1) :
  ∃ d,S1.sl=putD S.sl o.dst d∧(∀ T,Ag o S T→R T→stepL Γ o T=some ⟨putD T.sl o.dst d,T.ob⟩) ∧
   (∀ T,Ag o S T→AgD o S T→R T→wquiet o T=true)∧∀ T,Ag o S T→AgD o S T→∀ k,Env.mentions k (putD T.sl o.dst d)=Env.mentions k T.sl:=by
 unfold wquiet at hq
 have hgo:wquietGo o S=true→goL Γ o S=some S1→∃ d,S1.sl=putD S.sl o.dst d∧(∀ T,Ag o S T→R T→goL Γ o T=some ⟨putD T.sl o.dst d,T.ob⟩) ∧
   (∀ T,Ag o S T→AgD o S T→R T→wquietGo o T=true)∧∀ T,Ag o S T→AgD o S T→∀ k,Env.mentions k (putD T.sl o.dst d)=Env.mentions k T.sl:=by
  intro hqg hg
  unfold wquietGo at hqg
  split at hqg
  ·rename_i d o0 he
   rw [Bool.and_eq_true] at hqg
   obtain ⟨hsub,hold⟩:=hqg
   have e0:=effP_ob hk he
   subst e0
   have hS:effP (frS S) o.k (o.args.map S.get) S.ob=some (d,S.ob):=by rw [effP_fr hk (fun _=>false),he]
   unfold goL at hg
   rw [eff_nonW hk,hS] at hg
   simp only [Option.some.injEq] at hg
   have loc:∀ T,Ag o S T→R T→effP (fun _=>false) o.k (o.args.map T.get) T.ob=some (d,T.ob):=by
    intro T ha hl
    exact hR T ha hl d he
   refine ⟨d,by rw [← hg],fun T ha hl=>?_,fun T ha hd hl=>?_,fun T ha hd k=>?_⟩
   ·unfold goL
    rw [eff_nonW hk,effP_fr hk (fun _=>false),loc T ha hl]
   ·unfold wquietGo
    rw [loc T ha hl]
    simp only
    rw [← subM_congr ha,← oldOk_congr hd,hsub,hold]; rfl
   ·refine quiet_ment hold hd (fun k hkm=>?_) k
    rw [subM_congr ha] at hsub
    exact subM_ment hsub hkm
  ·cases hqg
 have hund:oldOk o S .und=true→∀ T,Ag o S T→AgD o S T→∀ k,Env.mentions k (putD T.sl o.dst .und)=Env.mentions k T.sl:=fun hold T ha hd k=>quiet_ment hold hd (fun k h=>by simp [DV.mentions] at h) k
 rw [stepL_go] at h
 cases hg:o.g with
 | none =>
  rw [hg] at h hq
  obtain ⟨d,h1,h2,h3,h4⟩:=hgo hq h
  exact ⟨d,h1,fun T hT hl=>by rw [stepL_go,hg]; exact h2 T hT hl,fun T hT hD hl=>by unfold wquiet; rw [hg]; exact h3 T hT hD hl,h4⟩
 | some p =>
  obtain ⟨t,want⟩:=p
  rw [hg] at h hq
  simp only at h hq
  cases hl:Lg.look S.sl t with
  | b x =>
   rw [hl] at h hq
   simp only at h hq
   by_cases hx:x=want
   ·rw [if_pos hx] at h hq
    obtain ⟨d,h1,h2,h3,h4⟩:=hgo hq h
    refine ⟨d,h1,fun T hT hll=>?_,fun T hT hD hll=>?_,h4⟩
    ·rw [stepL_go,hg]
     simp only
     rw [← hT.guard hg,hl]
     simp only
     rw [if_pos hx]
     exact h2 T hT hll
    ·unfold wquiet
     rw [hg]
     simp only
     rw [← hT.guard hg,hl]
     simp only
     rw [if_pos hx]
     exact h3 T hT hD hll
   ·rw [if_neg hx] at h hq
    injection h with h
    subst h
    refine ⟨.und,rfl,fun T hT _=>?_,fun T hT hD _=>?_,hund hq⟩
    ·rw [stepL_go,hg]
     simp only
     rw [← hT.guard hg,hl]
     simp only
     rw [if_neg hx]
    ·unfold wquiet
     rw [hg]
     simp only
     rw [← hT.guard hg,hl]
     simp only
     rw [if_neg hx,← oldOk_congr hD]; exact hq
  | und =>
   rw [hl] at h hq
   injection h with h
   subst h
   refine ⟨.und,rfl,fun T hT _=>?_,fun T hT hD _=>?_,hund hq⟩
   ·rw [stepL_go,hg]
    simp only
    rw [← hT.guard hg,hl]
   ·unfold wquiet
    rw [hg]
    simp only
    rw [← hT.guard hg,hl]
    simp only
    rw [← oldOk_congr hD]; exact hq
  | _=>rw [hl] at h; cases h

/-- A step that looks at no more than lengths. -/
theorem stepL_late {Γ:Fns} {L:List Nat} {o:LOp} {S S1:LS} (hk:o.k.isW=false) (hs:o.k.shape=true) {b:OB} (hb:Shape S.ob b) (ho:okStep (.late L) o S=true) (h:stepL Γ o S=some S1) :
  ∃ d,S1.sl=putD S.sl o.dst d∧(∀ T,Ag o S T→T.ob=b→stepL Γ o T=some ⟨putD T.sl o.dst d,T.ob⟩) ∧
   (∀ T,Ag o S T→AgD o S T→T.ob=b→okStep (.late L) o T=true)∧∀ T,Ag o S T→AgD o S T→∀ k,Env.mentions k (putD T.sl o.dst d)=Env.mentions k T.sl:=by
 simp only [okStep,hk,Bool.false_eq_true,if_false,Bool.or_eq_true,Bool.and_eq_true] at ho
 rcases ho with hq | ⟨hq,hin⟩
 ·obtain ⟨d,h1,h2,h3⟩:=stepL_quiet hk hq h
  exact ⟨d,h1,fun T ha _=>h2 T ha,fun T ha hd _=>by simp only [okStep,hk,Bool.false_eq_true,if_false]; rw [← quiet_congr hk ha hd,hq]; rfl,h3⟩
 ·obtain ⟨d,h1,h2,h3,h4⟩:=stepL_wquietR (R:=fun T=>T.ob=b) hk (fun T ha hT d he=>by
   rw [← ha.get,hT]
   exact effP_shape hk hs hb he) hq h
  refine ⟨d,h1,h2,fun T ha hd hl=>?_,h4⟩
  simp only [okStep,hk,Bool.false_eq_true,if_false]
  rw [h3 T ha hd hl,← ha.get,hin]; simp
theorem settle_plain {ob ob1:OB} {v v':DV} (h:settle ob v=some (v',ob1)) (hv:ownKs [v]=[]):ob1=ob:=by
 cases v with
 | own k n lo hi=>simp [ownKs] at hv
 | _=>simp only [settle,Option.some.injEq,Prod.mk.injEq,reduceCtorEq] at h <;> first | exact h.2.symm | cases h
theorem ownKs_two {x y:DV} (h:ownKs [x,y]=[]):ownKs [y]=[]:=by
 cases x <;> first | exact h | (simp [ownKs] at h)
/-- A store keeps all lengths. -/
theorem store_shape {Γ:Fns} {o:LOp} {S S1:LS} (hs:o.k.isStore=true) (ha:(ownKs (o.args.map S.get)).isEmpty=true) (h:stepL Γ o S=some S1):Shape S.ob S1.ob:=by
 have go:goL Γ o S=some S1→Shape S.ob S1.ob:=by
  intro hg
  unfold goL at hg
  split at hg
  ·rename_i v ob he
   injection hg with hg
   subst hg
   show Shape S.ob ob
   generalize o.args.map S.get=xs at *
   generalize o.k=kk at *
   cases kk with
   | store sz =>
    simp only [eff,effP] at he
    split at he
    ·rename_i k n a q v0
     have hv:ownKs [v0]=[]:=ownKs_two (List.isEmpty_iff.1 ha)
     split at he
     ·rename_i v' ob1 hst
      have e1:=settle_plain hst hv
      subst e1
      split at he
      ·rename_i es hes
       split at he
       ·split at he
        ·rename_i e hea
         split at he
         ·injection he with he
          simp only [Prod.mk.injEq] at he
          rw [← he.2]
          intro id
          rw [lookO_put]
          by_cases hid:id=k
          ·subst hid; rw [if_pos rfl,hes]; simp
          ·rw [if_neg hid]
         ·cases he
        ·cases he
       ·cases he
      ·cases he
     ·cases he
    ·cases he
   | _=>cases hs
  ·cases hg
 rw [stepL_go] at h
 cases hg:o.g with
 | none=>rw [hg] at h; exact go h
 | some p =>
  obtain ⟨t,want⟩:=p
  rw [hg] at h
  simp only at h
  cases hl:Lg.look S.sl t with
  | b x =>
   rw [hl] at h
   simp only at h
   by_cases hx:x=want
   ·rw [if_pos hx] at h; exact go h
   ·rw [if_neg hx] at h; injection h with h; subst h; exact fun _=>rfl
  | und=>rw [hl] at h; injection h with h; subst h; exact fun _=>rfl
  | _=>rw [hl] at h; cases h
theorem stepL_wquiet {Γ:Fns} {o:LOp} {S S1:LS} (hp:plainO o=true) (hk:o.k.isW=false) (hq:wquiet o S=true) (h:stepL Γ o S=some S1) :
  ∃ d,S1.sl=putD S.sl o.dst d∧(∀ T,Ag o S T→(∀ k,Env.mentions k S.sl=true→lookO T.ob k=lookO S.ob k)→stepL Γ o T=some ⟨putD T.sl o.dst d,T.ob⟩) ∧
   (∀ T,Ag o S T→AgD o S T→(∀ k,Env.mentions k S.sl=true→lookO T.ob k=lookO S.ob k)→wquiet o T=true)∧∀ T,Ag o S T→AgD o S T→∀ k,Env.mentions k (putD T.sl o.dst d)=Env.mentions k T.sl :=
 stepL_wquietA hk (fun x hx k hk=>args_plain hp hx hk) hq h

/-- Two neighbours,exchanged,where each object is only looked at or made. -/
theorem swap_weak {Γ:Fns} {i j:LOp} (hpi:plainO i=true) (hpj:plainO j=true) (hap:apartL j i=true) (hw:¬ (j.k.isW=true∧i.k.isW=true)) {S S1 S2:LS} (oj:okStep .weak j S=true) (sj:stepL Γ j S=some S1) (oi:okStep .weak i S1=true) (si:stepL Γ i S1=some S2) :
  ∃ T1,okStep .weak i S=true∧stepL Γ i S=some T1∧okStep .weak j T1=true∧stepL Γ j T1=some S2:=by
 obtain ⟨p1,p2,p3⟩:=apartL_spec hap
 have p2':∀ d,i.dst=some d→j.dst≠some d:=fun d hi hj=>p2 d hj hi
 obtain ⟨dj,ej,fj⟩:=stepL_any sj
 have ai:=ag_step ej p1
 have bi:=agD_step ej p2
 have fin:∀ (di:DV) (T1:LS),S2.sl=putD S1.sl i.dst di→T1.sl=putD S.sl i.dst di→okStep .weak j T1=true→(∃ e,stepL Γ j T1=some ⟨putD T1.sl j.dst e,S2.ob⟩∧S1.sl=putD S.sl j.dst e)→okStep .weak j T1=true∧stepL Γ j T1=some S2:=by
  rintro di T1 e2 e1 ho ⟨e,hs,he⟩
  refine ⟨ho,?_⟩
  rw [hs]
  congr 1
  exact ls_eq (by rw [e2,e1,he]; exact putD_comm p2 S.sl) rfl
 cases hi:i.k.isW with
 | false =>
  have hqi:wquiet i S1=true:=by simpa [okStep,hi] using oi
  obtain ⟨obi,_⟩:=stepL_nonW hi si
  obtain ⟨di,ei,gi,wi,mi⟩:=stepL_wquiet hpi hi hqi si
  cases hj:j.k.isW with
  | false =>
   have hqj:wquiet j S=true:=by simpa [okStep,hj] using oj
   obtain ⟨obj,_⟩:=stepL_nonW hj sj
   obtain ⟨dj',ej',gj,wj,mj⟩:=stepL_wquiet hpj hj hqj sj
   have s1:=gi S ai.1 (fun k _=>by rw [obj])
   have w1:=wi S ai.1 bi.1 (fun k _=>by rw [obj])
   have aj:=ag_step (S:=S) (S1:=⟨putD S.sl i.dst di,S.ob⟩) rfl p3
   have bj:=agD_step (S:=S) (S1:=⟨putD S.sl i.dst di,S.ob⟩) rfl p2'
   refine ⟨⟨putD S.sl i.dst di,S.ob⟩,by simp [okStep,hi,w1],s1,fin di _ ei rfl ?_ ⟨dj',?_,ej'⟩⟩
   ·have:=wj ⟨putD S.sl i.dst di,S.ob⟩ aj.2 bj.2 (fun k _=>rfl)
    simp [okStep,hj,this]
   ·rw [gj ⟨putD S.sl i.dst di,S.ob⟩ aj.2 (fun k _=>rfl),obi,obj]
  | true =>
   have haj:adds j S=true:=by simpa [okStep,hj] using oj
   -- what i looks at in S1 is as in S: its arguments are those of S
   have same:∀ k,Env.mentions k S.sl=true→lookO S1.ob k=lookO S.ob k:=fun k hk=>stepL_keep hj haj sj hk
   have hargs:∀ x∈i.args.map S1.get,∀ k,x.mentions k=true→Env.mentions k S.sl=true:=by
    intro x hx k hk
    rw [ai.1.get] at hx
    exact args_plain hpi hx hk
   obtain ⟨di',ei',gi',wi',mi'⟩:=stepL_wquietA hi hargs hqi si
   have s1:=gi' S ai.1 (fun k hk=>(same k hk).symm)
   have w1:=wi' S ai.1 bi.1 (fun k hk=>(same k hk).symm)
   have aj:=ag_step (S:=S) (S1:=⟨putD S.sl i.dst di',S.ob⟩) rfl p3
   refine ⟨⟨putD S.sl i.dst di',S.ob⟩,by simp [okStep,hi,w1],s1,fin di' _ ei' rfl ?_ ⟨dj,?_,ej⟩⟩
   ·simp only [okStep,hj,if_true]
    rw [adds_congr aj.1]; exact haj
   ·rw [fj ⟨putD S.sl i.dst di',S.ob⟩ ⟨aj.2,rfl,fun k=>mi' S ai.1 bi.1 k⟩,obi]
 | true =>
  have hj:j.k.isW=false:=by
   cases hj:j.k.isW with
   | false=>rfl
   | true=>exact absurd ⟨hj,hi⟩ hw
  have hqj:wquiet j S=true:=by simpa [okStep,hj] using oj
  have hai:adds i S1=true:=by simpa [okStep,hi] using oi
  obtain ⟨obj,_⟩:=stepL_nonW hj sj
  obtain ⟨dj',ej',gj,wj,mj⟩:=stepL_wquiet hpj hj hqj sj
  obtain ⟨di,ei,fi⟩:=stepL_any si
  have s1:=fi S ⟨ai.1,obj.symm,fun k=>by rw [ej']; exact (mj S (fun t _=>rfl) (fun t _=>rfl) k).symm⟩
  have hai':adds i S=true:=by rw [← adds_congr ai.1]; exact hai
  have same:∀ k,Env.mentions k S.sl=true→lookO S2.ob k=lookO S.ob k:=fun k hk=>stepL_keep hi hai' s1 hk
  have aj:=ag_step (S:=S) (S1:=⟨putD S.sl i.dst di,S2.ob⟩) rfl p3
  have bj:=agD_step (S:=S) (S1:=⟨putD S.sl i.dst di,S2.ob⟩) rfl p2'
  refine ⟨⟨putD S.sl i.dst di,S2.ob⟩,by simp [okStep,hi,hai'],s1,fin di _ ei rfl ?_ ⟨dj',?_,ej'⟩⟩
  ·have:=wj ⟨putD S.sl i.dst di,S2.ob⟩ aj.2 bj.2 same
   simp [okStep,hj,this]
  ·rw [gj ⟨putD S.sl i.dst di,S2.ob⟩ aj.2 same]

/-- A step that looks at nothing but 'L'. -/
theorem stepL_foot {Γ:Fns} {L:List Nat} {o:LOp} {S S1:LS} {M:Nat→Prop} (hk:o.k.isW=false) (hM:∀ x∈o.args.map S.get,∀ k,x.mentions k=true→k∈L→M k) (ho:okStep (.foot L) o S=true) (h:stepL Γ o S=some S1) :
  ∃ d,S1.sl=putD S.sl o.dst d∧(∀ T,Ag o S T→(∀ k,M k→lookO T.ob k=lookO S.ob k)→stepL Γ o T=some ⟨putD T.sl o.dst d,T.ob⟩) ∧
   (∀ T,Ag o S T→AgD o S T→(∀ k,M k→lookO T.ob k=lookO S.ob k)→okStep (.foot L) o T=true)∧∀ T,Ag o S T→AgD o S T→∀ k,Env.mentions k (putD T.sl o.dst d)=Env.mentions k T.sl:=by
 simp only [okStep,hk,Bool.false_eq_true,if_false,Bool.or_eq_true,Bool.and_eq_true] at ho
 rcases ho with hq | ⟨hq,hin⟩
 ·obtain ⟨d,h1,h2,h3⟩:=stepL_quiet hk hq h
  exact ⟨d,h1,fun T ha _=>h2 T ha,fun T ha hd _=>by simp only [okStep,hk,Bool.false_eq_true,if_false]; rw [← quiet_congr hk ha hd,hq]; rfl,h3⟩
 ·obtain ⟨d,h1,h2,h3,h4⟩:=stepL_wquietA (M:=M) hk (fun x hx k hkm=>hM x hx k hkm (argsIn_spec hin hx hkm)) hq h
  refine ⟨d,h1,h2,fun T ha hd hl=>?_,h4⟩
  simp only [okStep,hk,Bool.false_eq_true,if_false]
  rw [h3 T ha hd hl,← ha.get,hin]; simp

/-- Two neighbours,exchanged,where what is looked at is not what is changed. -/
theorem swap_foot {Γ:Fns} {L:List Nat} {i j:LOp} (hpi:plainO i=true) (hpj:plainO j=true) (hap:apartL j i=true) (hw:¬ (j.k.isW=true∧i.k.isW=true)) {S S1 S2:LS} (oj:okStep (.foot L) j S=true) (sj:stepL Γ j S=some S1) (oi:okStep (.foot L) i S1=true) (si:stepL Γ i S1=some S2) :
  ∃ T1,okStep (.foot L) i S=true∧stepL Γ i S=some T1∧okStep (.foot L) j T1=true∧stepL Γ j T1=some S2:=by
 obtain ⟨p1,p2,p3⟩:=apartL_spec hap
 have p2':∀ d,i.dst=some d→j.dst≠some d:=fun d hi hj=>p2 d hj hi
 obtain ⟨dj,ej,fj⟩:=stepL_any sj
 have ai:=ag_step ej p1
 have bi:=agD_step ej p2
 have fin:∀ (di:DV) (T1:LS),S2.sl=putD S1.sl i.dst di→T1.sl=putD S.sl i.dst di→okStep (.foot L) j T1=true→(∃ e,stepL Γ j T1=some ⟨putD T1.sl j.dst e,S2.ob⟩∧S1.sl=putD S.sl j.dst e)→okStep (.foot L) j T1=true∧stepL Γ j T1=some S2:=by
  rintro di T1 e2 e1 ho ⟨e,hs,he⟩
  refine ⟨ho,?_⟩
  rw [hs]
  congr 1
  exact ls_eq (by rw [e2,e1,he]; exact putD_comm p2 S.sl) rfl
 cases hi:i.k.isW with
 | false =>
  obtain ⟨obi,_⟩:=stepL_nonW hi si
  cases hj:j.k.isW with
  | false =>
   obtain ⟨obj,_⟩:=stepL_nonW hj sj
   obtain ⟨di,ei,gi,wi,mi⟩:=stepL_foot (M:=fun _=>True) hi (fun _ _ _ _ _=>trivial) oi si
   obtain ⟨dj',ej',gj,wj,mj⟩:=stepL_foot (M:=fun _=>True) hj (fun _ _ _ _ _=>trivial) oj sj
   have s1:=gi S ai.1 (fun k _=>by rw [obj])
   have w1:=wi S ai.1 bi.1 (fun k _=>by rw [obj])
   have aj:=ag_step (S:=S) (S1:=⟨putD S.sl i.dst di,S.ob⟩) rfl p3
   have bj:=agD_step (S:=S) (S1:=⟨putD S.sl i.dst di,S.ob⟩) rfl p2'
   refine ⟨⟨putD S.sl i.dst di,S.ob⟩,w1,s1,fin di _ ei rfl (wj _ aj.2 bj.2 (fun k _=>rfl)) ⟨dj',?_,ej'⟩⟩
   rw [gj ⟨putD S.sl i.dst di,S.ob⟩ aj.2 (fun k _=>rfl),obi,obj]
  | true =>
   have haj:clears L j S=true:=by simpa [okStep,hj] using oj
   obtain ⟨di',ei',gi',wi',mi'⟩:=stepL_foot (M:=fun k=>Env.mentions k S.sl=true∧k∈L) hi (fun x hx k hk hL=>⟨by rw [ai.1.get] at hx; exact args_plain hpi hx hk,hL⟩) oi si
   have same:∀ k,Env.mentions k S.sl=true∧k∈L→lookO S.ob k=lookO S1.ob k:=fun k hk=>(stepL_keepL hj haj sj hk.1 hk.2).symm
   have s1:=gi' S ai.1 same
   have w1:=wi' S ai.1 bi.1 same
   have aj:=ag_step (S:=S) (S1:=⟨putD S.sl i.dst di',S.ob⟩) rfl p3
   refine ⟨⟨putD S.sl i.dst di',S.ob⟩,w1,s1,fin di' _ ei' rfl ?_ ⟨dj,?_,ej⟩⟩
   ·simp only [okStep,hj,if_true]
    rw [clears_congr aj.1]; exact haj
   ·rw [fj ⟨putD S.sl i.dst di',S.ob⟩ ⟨aj.2,rfl,fun k=>mi' S ai.1 bi.1 k⟩,obi]
 | true =>
  have hj:j.k.isW=false:=by
   cases hj:j.k.isW with
   | false=>rfl
   | true=>exact absurd ⟨hj,hi⟩ hw
  have hai:clears L i S1=true:=by simpa [okStep,hi] using oi
  obtain ⟨obj,_⟩:=stepL_nonW hj sj
  obtain ⟨dj',ej',gj,wj,mj⟩:=stepL_foot (M:=fun k=>Env.mentions k S.sl=true∧k∈L) hj (fun x hx k hk hL=>⟨args_plain hpj hx hk,hL⟩) oj sj
  obtain ⟨di,ei,fi⟩:=stepL_any si
  have s1:=fi S ⟨ai.1,obj.symm,fun k=>by rw [ej']; exact (mj S (fun t _=>rfl) (fun t _=>rfl) k).symm⟩
  have hai':clears L i S=true:=by rw [← clears_congr ai.1]; exact hai
  have same:∀ k,Env.mentions k S.sl=true∧k∈L→lookO S2.ob k=lookO S.ob k:=fun k hk=>stepL_keepL hi hai' s1 hk.1 hk.2
  have aj:=ag_step (S:=S) (S1:=⟨putD S.sl i.dst di,S2.ob⟩) rfl p3
  have bj:=agD_step (S:=S) (S1:=⟨putD S.sl i.dst di,S2.ob⟩) rfl p2'
  refine ⟨⟨putD S.sl i.dst di,S2.ob⟩,by simp [okStep,hi,hai'],s1,fin di _ ei rfl (wj _ aj.2 bj.2 same) ⟨dj',?_,ej'⟩⟩
  rw [gj ⟨putD S.sl i.dst di,S2.ob⟩ aj.2 same]

/-- Two neighbours,exchanged,where a store is passed only by what looks at lengths. -/
theorem swap_late {Γ:Fns} {L:List Nat} {i j:LOp} (hpi:plainO i=true) (hpj:plainO j=true) (hap:apartL j i=true) (hw:¬ (j.k.isW=true∧i.k.isW=true)) (hsj:j.k.isStore=true→i.k.shape=true) (hsi:i.k.isStore=true→j.k.shape=true)
  {S S1 S2:LS} (oj:okStep (.late L) j S=true) (sj:stepL Γ j S=some S1) (oi:okStep (.late L) i S1=true) (si:stepL Γ i S1=some S2) :
  ∃ T1,okStep (.late L) i S=true∧stepL Γ i S=some T1∧okStep (.late L) j T1=true∧stepL Γ j T1=some S2:=by
 obtain ⟨p1,p2,p3⟩:=apartL_spec hap
 have p2':∀ d,i.dst=some d→j.dst≠some d:=fun d hi hj=>p2 d hj hi
 obtain ⟨dj,ej,fj⟩:=stepL_any sj
 have ai:=ag_step ej p1
 have bi:=agD_step ej p2
 have conv:∀ (o:LOp) (T:LS),o.k.isStore=false→okStep (.late L) o T=okStep (.foot L) o T:=fun o T h=>by
  simp only [okStep,h,Bool.false_eq_true,if_false]
 have stW:∀ o:LOp,o.k.isStore=true→o.k.isW=true:=fun o h=>by
  cases hk:o.k <;> rw [hk] at h <;> first | rfl | cases h
 have fin:∀ (di:DV) (T1:LS),S2.sl=putD S1.sl i.dst di→T1.sl=putD S.sl i.dst di→okStep (.late L) j T1=true→(∃ e,stepL Γ j T1=some ⟨putD T1.sl j.dst e,S2.ob⟩∧S1.sl=putD S.sl j.dst e)→okStep (.late L) j T1=true∧stepL Γ j T1=some S2:=by
  rintro di T1 e2 e1 ho ⟨e,hs,he⟩
  refine ⟨ho,?_⟩
  rw [hs]
  congr 1
  exact ls_eq (by rw [e2,e1,he]; exact putD_comm p2 S.sl) rfl
 cases hst:j.k.isStore with
 | true =>
  have hjw:=stW j hst
  have hi:i.k.isW=false:=by
   cases hi:i.k.isW with
   | false=>rfl
   | true=>exact absurd ⟨hjw,hi⟩ hw
  obtain ⟨obi,_⟩:=stepL_nonW hi si
  have haj:(ownKs (j.args.map S.get)).isEmpty=true:=by simpa [okStep,hjw,hst] using oj
  have hsh:=store_shape hst haj sj
  obtain ⟨di',ei',gi',wi',mi'⟩:=stepL_late hi (hsj hst) hsh.symm oi si
  have s1:=gi' S ai.1 rfl
  have w1:=wi' S ai.1 bi.1 rfl
  have aj:=ag_step (S:=S) (S1:=⟨putD S.sl i.dst di',S.ob⟩) rfl p3
  refine ⟨⟨putD S.sl i.dst di',S.ob⟩,w1,s1,fin di' _ ei' rfl ?_ ⟨dj,?_,ej⟩⟩
  ·simp only [okStep,hjw,hst,if_true]
   rw [← aj.2.get]; exact haj
  ·rw [fj ⟨putD S.sl i.dst di',S.ob⟩ ⟨aj.2,rfl,fun k=>mi' S ai.1 bi.1 k⟩,obi]
 | false =>
  cases hst2:i.k.isStore with
  | true =>
   have hiw:=stW i hst2
   have hj:j.k.isW=false:=by
    cases hj:j.k.isW with
    | false=>rfl
    | true=>exact absurd ⟨hj,hiw⟩ hw
   obtain ⟨obj,_⟩:=stepL_nonW hj sj
   have hai:(ownKs (i.args.map S1.get)).isEmpty=true:=by simpa [okStep,hiw,hst2] using oi
   have hai':(ownKs (i.args.map S.get)).isEmpty=true:=by rw [← ai.1.get]; exact hai
   obtain ⟨di,ei,fi⟩:=stepL_any si
   have mjS:∀ k,Env.mentions k S.sl=Env.mentions k S1.sl:=by
    obtain ⟨dj',ej',_,_,mj⟩:=stepL_late (b:=S.ob) hj (hsi hst2) (fun _=>rfl) oj sj
    intro k
    rw [ej']
    exact (mj S (fun t _=>rfl) (fun t _=>rfl) k).symm
   have s1:=fi S ⟨ai.1,obj.symm,mjS⟩
   have hsh:=store_shape hst2 hai' s1
   obtain ⟨dj',ej',gj,wj,mj⟩:=stepL_late (b:=S2.ob) hj (hsi hst2) hsh oj sj
   have aj:=ag_step (S:=S) (S1:=⟨putD S.sl i.dst di,S2.ob⟩) rfl p3
   have bj:=agD_step (S:=S) (S1:=⟨putD S.sl i.dst di,S2.ob⟩) rfl p2'
   refine ⟨⟨putD S.sl i.dst di,S2.ob⟩,by simp [okStep,hiw,hst2]; simpa using hai',s1,fin di _ ei rfl (wj _ aj.2 bj.2 rfl) ⟨dj',?_,ej'⟩⟩
   rw [gj ⟨putD S.sl i.dst di,S2.ob⟩ aj.2 rfl]
  | false =>
   rw [conv j S hst] at oj
   rw [conv i S1 hst2] at oi
   obtain ⟨T1,q1,q2,q3,q4⟩:=swap_foot hpi hpj hap hw oj sj oi si
   exact ⟨T1,by rw [conv i S hst2]; exact q1,q2,by rw [conv j T1 hst]; exact q3,q4⟩

theorem runD_cons {Γ:Fns} {q:Mode} {o:LOp} {os:List LOp} {S Sf:LS}:runD Γ q (o :: os) S=some Sf↔okStep q o S=true∧∃ S1,stepL Γ o S=some S1∧runD Γ q os S1=some Sf:=by
 simp only [runD]
 constructor
 ·intro h
  split at h
  ·rename_i ho
   split at h
   ·rename_i S1 hs
    exact ⟨ho,S1,hs,h⟩
   ·cases h
  ·cases h
 ·rintro ⟨ho,S1,hs,h⟩
  rw [if_pos ho,hs]
  exact h

def litArg:Opd→Bool
 | .c (.i _) | .c (.y _) | .c (.b _) | .c (.s _)=>true
 | _=>false
/-- It makes a variable,or a literal of constants. -/
def litO (o:LOp):Bool:=(match o.k with
 | .bslice id ..=>o.args.all litArg && !(id % 8 == 5)
 | .alloc ..=>o.args.isEmpty
 | _=>false) && o.g.isNone && o.dst.isSome
def callO (o:LOp):Bool:=(match o.k with
 | .call .. | .calld _=>true
 | _=>false) && o.g.isNone && o.dst.isSome
def litPair (x y:LOp):Bool:=(litO x && callO y) || (callO x && litO y)
/-- A literal,or an append. -/
def litV (o:LOp):Bool:=(match o.k with
 | .bslice id ..=>!(id % 8 == 5)
 | _=>false) && o.g.isNone && o.dst.isSome
def appV (o:LOp):Bool:=(match o.k with
 | .app ..=>true
 | _=>false) && o.g.isNone && o.dst.isSome
def mkV (o:LOp):Bool:=(match o.k with
 | .mkfn k=>k % 2 == 0
 | .build ..=>true
 | _=>false) && o.g.isNone && o.dst.isSome
def mixPair (x y:LOp):Bool:=(litV x && litV y) || (litV x && appV y) || (appV x && litV y) || (mkV x || mkV y)
def psPair (x y:LOp):Bool:=(litV x && callO y) || (callO x && litV y)
/-- What is asked of two that may be exchanged. -/
def Exch (q:Mode) (j i:LOp):Prop:=apartL j i=true∧(j.k.isW=true∧i.k.isW=true→(q.isP=true∧litPair j i=true)∨(q=.mix∧mixPair j i=true)∨(q.isS=true∧psPair j i=true))∧(j.k.isW=true∨i.k.isW=true→q≠.free)∧plainO j=true∧plainO i=true∧(q.isL=true→j.k.isStore=true→i.k.shape=true)∧(q.isL=true→i.k.isStore=true→j.k.shape=true)
theorem argT_looks {o:LOp} {t:Nat} (h:t∈argT o.args):t∈looksL o:=by
 have key:∀ as:List Opd,t∈argT as→Opd.t t∈as:=by
  intro as
  induction as with
  | nil=>intro h; cases h
  | cons a r ih =>
   intro h
   cases a with
   | t n =>
    simp only [argT,List.mem_cons] at h
    rcases h with rfl | h
    ·exact List.mem_cons_self ..
    ·exact List.mem_cons_of_mem _ (ih h)
   | c d=>exact List.mem_cons_of_mem _ (ih h)
 exact List.mem_append_left _ (List.mem_filterMap.2 ⟨_,key _ h,rfl⟩)
theorem feed_dst {L1 L2 F:List Nat} {o i:LOp} {S:LS} (ha:o.k.isApp=true) (hw:o.k.isW=true) (ho:okStep (.feed L1 L2 F) o S=true) (hn:∀ d,i.dst=some d→d∉looksL o):dstIn F i.dst=false:=by
 simp only [okStep,hw,ha,if_true,Bool.and_eq_true] at ho
 cases hd:i.dst with
 | none=>rfl
 | some d =>
  cases hF:F.contains d with
  | false=>simpa [dstIn] using hF
  | true =>
   have:=List.all_eq_true.1 ho.2 d (by simpa using hF)
   exact absurd (argT_looks (by simpa using this)) (hn d hd)
/-- What the changing one of a pair must keep clear of. -/
def feedL (L1 L2:List Nat) (o:LOp):List Nat:=if o.k.isApp=true then L1 else L2
theorem feed_w {L1 L2 F:List Nat} {o:LOp} {S:LS} (hw:o.k.isW=true) (ho:okStep (.feed L1 L2 F) o S=true):okStep (.foot (feedL L1 L2 o)) o S=true:=by
 simp only [okStep,hw,if_true] at ho ⊢
 unfold feedL
 split at ho
 ·rename_i ha; rw [if_pos ha]; simp only [Bool.and_eq_true] at ho; exact ho.1
 ·rename_i ha; rw [if_neg ha]; exact ho
theorem feed_w' {L1 L2 F:List Nat} {o:LOp} {S T:LS} (hw:o.k.isW=true) (ho:okStep (.feed L1 L2 F) o S=true) (ht:okStep (.foot (feedL L1 L2 o)) o T=true):okStep (.feed L1 L2 F) o T=true:=by
 simp only [okStep,hw,if_true] at ho ht ⊢
 unfold feedL at ht
 split
 ·rename_i ha; rw [if_pos ha] at ht ho; simp only [Bool.and_eq_true] at ho ⊢; exact ⟨ht,ho.2⟩
 ·rename_i ha; rw [if_neg ha] at ht; exact ht
theorem feed_n {L1 L2 F L:List Nat} {o:LOp} {S:LS} (hw:o.k.isW=false) (hL:L=L2∨(L=L1∧dstIn F o.dst=false)) (ho:okStep (.feed L1 L2 F) o S=true):okStep (.foot L) o S=true:=by
 simp only [okStep,hw,Bool.false_eq_true,if_false,Bool.or_eq_true,Bool.and_eq_true] at ho ⊢
 rcases ho with h | ⟨h1,h2,h3⟩
 ·exact .inl h
 ·refine .inr ⟨h1,?_⟩
  rcases hL with rfl | ⟨rfl,hd⟩
  ·exact h2
  ·rcases h3 with h3 | h3
   ·exact h3
   ·rw [hd] at h3; cases h3
theorem feed_n' {L1 L2 F L:List Nat} {o:LOp} {S T:LS} (hw:o.k.isW=false) (ha:Ag o S T) (hd:AgD o S T) (ho:okStep (.feed L1 L2 F) o S=true) (ht:okStep (.foot L) o T=true):okStep (.feed L1 L2 F) o T=true:=by
 simp only [okStep,hw,Bool.false_eq_true,if_false,Bool.or_eq_true,Bool.and_eq_true] at ho ht ⊢
 rcases ho with h | ⟨h1,h2,h3⟩
 ·left; rw [← quiet_congr hw ha hd]; exact h
 ·rcases ht with h | ⟨h4,_⟩
  ·exact .inl h
  ·rw [ha.get] at h2 h3
   exact .inr ⟨h4,h2,h3⟩
theorem swap_feed {Γ:Fns} {L1 L2 F:List Nat} {i j:LOp} (hpi:plainO i=true) (hpj:plainO j=true) (hap:apartL j i=true) (hw:¬ (j.k.isW=true∧i.k.isW=true)) {S S1 S2:LS} (oj:okStep (.feed L1 L2 F) j S=true) (sj:stepL Γ j S=some S1) (oi:okStep (.feed L1 L2 F) i S1=true) (si:stepL Γ i S1=some S2) :
  ∃ T1,okStep (.feed L1 L2 F) i S=true∧stepL Γ i S=some T1∧okStep (.feed L1 L2 F) j T1=true∧stepL Γ j T1=some S2:=by
 obtain ⟨p1,p2,p3⟩:=apartL_spec hap
 have p2':∀ d,i.dst=some d→j.dst≠some d:=fun d hi hj=>p2 d hj hi
 obtain ⟨dj,ej,_⟩:=stepL_any sj
 have ai:=ag_step ej p1
 have bi:=agD_step ej p2
 have fin:∀ L:List Nat,okStep (.foot L) j S=true→okStep (.foot L) i S1=true→∃ T1,okStep (.foot L) i S=true∧stepL Γ i S=some T1∧okStep (.foot L) j T1=true∧stepL Γ j T1=some S2∧Ag j S T1∧AgD j S T1:=by
  intro L h1 h2
  obtain ⟨T1,q1,q2,q3,q4⟩:=swap_foot hpi hpj hap hw h1 sj h2 si
  obtain ⟨di,ei,_⟩:=stepL_any q2
  exact ⟨T1,q1,q2,q3,q4,(ag_step ei p3).2,(agD_step ei p2').2⟩
 cases hi:i.k.isW with
 | false =>
  cases hj:j.k.isW with
  | false =>
   obtain ⟨T1,q1,q2,q3,q4,q5,q6⟩:=fin L2 (feed_n hj (.inl rfl) oj) (feed_n hi (.inl rfl) oi)
   exact ⟨T1,feed_n' hi ai.1 bi.1 oi q1,q2,feed_n' hj q5 q6 oj q3,q4⟩
  | true =>
   have hL:feedL L1 L2 j=L2∨(feedL L1 L2 j=L1∧dstIn F i.dst=false):=by
    unfold feedL
    cases ha:j.k.isApp with
    | true=>exact .inr ⟨by simp,feed_dst ha hj oj p3⟩
    | false=>exact .inl (by simp)
   obtain ⟨T1,q1,q2,q3,q4,q5,q6⟩:=fin _ (feed_w hj oj) (feed_n hi hL oi)
   exact ⟨T1,feed_n' hi ai.1 bi.1 oi q1,q2,feed_w' hj oj q3,q4⟩
 | true =>
  have hj:j.k.isW=false:=by
   cases hj:j.k.isW with
   | false=>rfl
   | true=>exact absurd ⟨hj,hi⟩ hw
  have hL:feedL L1 L2 i=L2∨(feedL L1 L2 i=L1∧dstIn F j.dst=false):=by
   unfold feedL
   cases ha:i.k.isApp with
   | true=>exact .inr ⟨by simp,feed_dst ha hi oi p1⟩
   | false=>exact .inl (by simp)
  obtain ⟨T1,q1,q2,q3,q4,q5,q6⟩:=fin _ (feed_n hj hL oj) (feed_w hi oi)
  exact ⟨T1,feed_w' hi oi q1,q2,feed_n' hj q5 q6 oj q3,q4⟩
theorem putO_comm {x y:Nat} {a b:List DV} (h:x≠y):∀ e:OB,putO (putO e x a) y b=putO (putO e y b) x a
 | []=>by
  simp only [putO]
  grind [putO]
 | (k,c) :: r=>by
  have ih:=putO_comm (a:=a) (b:=b) h r
  grind [putO]
theorem settleL_lit:∀ {as:List Opd},as.all litArg=true→∃ vs,∀ (T:LS) (ob:OB),settleL ob (as.map T.get)=some (vs,ob)
 | [],_=>⟨[],fun _ _=>rfl⟩
 | a :: as,h=>by
  rw [List.all_cons,Bool.and_eq_true] at h
  obtain ⟨vs,hv⟩:=settleL_lit h.2
  cases a with
  | t n=>cases h.1
  | c d =>
   refine ⟨d :: vs,fun T ob=>?_⟩
   have e:settle ob (T.get (.c d))=some (d,ob):=by
    have:=h.1
    cases d <;> first | rfl | cases this
   simp only [List.map_cons,settleL]
   rw [e]
   simp only [hv T ob]
/-- What it makes,wherever it may. -/
theorem lit_step {Γ:Fns} {o:LOp} (hl:litO o=true) {S S1:LS} (h:stepL Γ o S=some S1) :
  ∃ id d es,frS S id=true∧(d.mentions id=true∧∀ k,d.mentions k=true→k=id)∧S1=⟨putD S.sl o.dst d,putO S.ob id es⟩∧∀ T,frS T id=true→stepL Γ o T=some ⟨putD T.sl o.dst d,putO T.ob id es⟩:=by
 obtain ⟨dst,k,args,g⟩:=o
 simp only [litO,Bool.and_eq_true] at hl
 obtain ⟨⟨h1,h2⟩,h3⟩:=hl
 cases g with
 | some p=>cases h2
 | none =>
  cases k with
  | bslice id len sz z ps =>
   simp only [Bool.and_eq_true,Bool.not_eq_true',beq_eq_false_iff_ne,ne_eq] at h1
   have h15:=h1.2
   obtain ⟨vs,hv⟩:=settleL_lit h1.1
   have step:∀ T:LS,stepL Γ ⟨dst,.bslice id len sz z ps,args,none⟩ T=match (if frS T id=true then (fillE sz (List.replicate len z) ps vs).map fun es=>(DV.own id len 0 len,putO T.ob id es) else none) with
     | some (v,ob)=>some { sl:=putD T.sl dst v,ob }
     | none=>none:=by
    intro T
    rw [stepL_go]
    simp only [goL,eff,effP,hv T T.ob,h15,false_implies,and_true,if_false]
    rfl
   rw [step] at h
   by_cases hf:frS S id=true
   ·rw [if_pos hf] at h
    cases he:fillE sz (List.replicate len z) ps vs with
    | none=>rw [he] at h; cases h
    | some es =>
     rw [he] at h
     simp only [Option.map_some,Option.some.injEq] at h
     refine ⟨id,.own id len 0 len,es,hf,⟨by simp [DV.mentions],fun k hk=>by simp only [DV.mentions,beq_iff_eq] at hk; exact hk.symm⟩,h.symm,fun T hT=>?_⟩
     rw [step,if_pos hT,he]
     rfl
   ·rw [if_neg hf] at h; cases h
  | alloc id z =>
   have ha:args=[]:=by simpa using h1
   subst ha
   have step:∀ T:LS,stepL Γ ⟨dst,.alloc id z,[],none⟩ T=match (if frS T id=true then some (DV.oad id 1 0 0,putO T.ob id [z]) else none) with
     | some (v,ob)=>some { sl:=putD T.sl dst v,ob }
     | none=>none:=by
    intro T
    rw [stepL_go]
    rfl
   rw [step] at h
   by_cases hf:frS S id=true
   ·rw [if_pos hf] at h
    simp only [Option.some.injEq] at h
    refine ⟨id,.oad id 1 0 0,[z],hf,⟨by simp [DV.mentions],fun k hk=>by simp only [DV.mentions,beq_iff_eq] at hk; exact hk.symm⟩,h.symm,fun T hT=>?_⟩
    rw [step,if_pos hT]
   ·rw [if_neg hf] at h; cases h
  | _=>cases h1
theorem lendArg_frame {m:Bool} {ob:OB} {k:Nat} {es:List DV} {d:DV} (h:d.mentions k=false):lendArg m (putO ob k es) d=lendArg m ob d:=by
 cases d with
 | own j n lo hi =>
  have hj:¬ j=k:=by simpa [DV.mentions] using h
  have e:lookO (putO ob k es) j=lookO ob j:=by rw [lookO_put,if_neg hj]
  simp only [lendArg,elems,e]
 | oad j n a o =>
  have hj:¬ j=k:=by simpa [DV.mentions] using h
  have e:lookO (putO ob k es) j=lookO ob j:=by rw [lookO_put,if_neg hj]
  cases a <;> cases o <;> simp only [lendArg,e]
 | giv j n=>simp [DV.mentions] at h
 | ref c=>cases c <;> rfl
 | _=>rfl
theorem lendArgs_frame {m:Bool} {ob:OB} {k:Nat} {es:List DV}:∀ {xs:List DV},(∀ x∈xs,x.mentions k=false)→lendArgs m (putO ob k es) xs=lendArgs m ob xs
 | [],_=>rfl
 | x :: xs,h=>by
  simp only [lendArgs]
  rw [lendArg_frame (h x (List.mem_cons_self ..)),lendArgs_frame fun y hy=>h y (List.mem_cons_of_mem _ hy)]
theorem oldArgs_frame {ob:OB} {k:Nat} {es:List DV}:∀ {xs:List DV},(∀ x∈xs,x.mentions k=false)→oldArgs (putO ob k es) xs=oldArgs ob xs
 | [],_=>rfl
 | x :: xs,h=>by
  have hx:=h x (List.mem_cons_self ..)
  have e:oldArg (putO ob k es) x=oldArg ob x:=by
   cases x with
   | oad j n a o =>
    have hj:¬ j=k:=by simpa [DV.mentions] using hx
    simp only [oldArg,lookO_put,if_neg hj]
   | _=>rfl
  simp only [oldArgs]
  rw [e,oldArgs_frame fun y hy=>h y (List.mem_cons_of_mem _ hy)]
theorem putRefs_frame:∀ {m old:Bool} {xs cs:List DV} {ob o2:OB} {k:Nat} {es:List DV},(∀ x∈xs,x.mentions k=false)→putRefs m old ob xs cs=some o2→putRefs m old (putO ob k es) xs cs=some (putO o2 k es)
 | m,old,[],[],ob,o2,k,es,_,h=>by
  simp only [putRefs,Option.some.injEq] at h ⊢
  rw [h]
 | m,old,[],_ :: _,ob,o2,k,es,_,h=>by cases h
 | m,old,d :: ds,cs,ob,o2,k,es,hn,h=>by
  have hd:=hn d (List.mem_cons_self ..)
  have hds:∀ x∈ds,x.mentions k=false:=fun x hx=>hn x (List.mem_cons_of_mem _ hx)
  cases hro:refOf m d with
  | none =>
   rw [putRefs_cons hro] at h ⊢
   exact putRefs_frame hds h
  | some k0 =>
   cases d with
   | oad k1 n a o =>
    have hj:k≠k1:=by intro e; simp [DV.mentions,e] at hd
    cases cs with
    | nil=>cases h
    | cons c cs =>
     simp only [putRefs] at h ⊢
     rw [putO_comm hj]
     exact putRefs_frame hds h
   | own k1 n lo hi =>
    have hj:k≠k1:=by intro e; simp [DV.mentions,e] at hd
    cases m with
    | false=>cases hro
    | true =>
     simp only [putRefs,if_true] at h ⊢
     split at h
     ·rw [putO_comm hj]
      exact putRefs_frame hds h
     ·cases h
   | giv k1 n=>simp [DV.mentions] at hd
   | _=>cases hro
theorem takeIn_frame {old:Bool} {fr0 fr1:Nat→Bool} {k:Nat} {es:List DV} {ob o2:OB} {id:Nat} {d e:DV} (h:takeIn old fr0 ob id d=some (e,o2)) (hk:e.mentions k=false) (h01:∀ j,j≠k→fr0 j=true→fr1 j=true):takeIn old fr1 (putO ob k es) id d=some (e,putO o2 k es):=by
 cases d with
 | fr sz l =>
  simp only [takeIn] at h ⊢
  split at h
  ·rename_i hc
   rw [Bool.and_eq_true,Bool.and_eq_true] at hc
   injection h with h
   simp only [Prod.mk.injEq] at h
   obtain ⟨rfl,rfl⟩:=h
   have hne:id+8 * sz≠k:=by simpa [DV.mentions] using hk
   rw [if_pos (by rw [h01 _ hne hc.1.1,hc.1.2,hc.2]; rfl),putO_comm (Ne.symm hne)]
  ·cases h
 | ref c =>
  simp only [takeIn] at h ⊢
  split at h
  ·rename_i hc
   rw [Bool.and_eq_true,Bool.and_eq_true] at hc
   injection h with h
   simp only [Prod.mk.injEq] at h
   obtain ⟨rfl,rfl⟩:=h
   have hne:id+8 * c.cells.length≠k:=by simpa [DV.mentions] using hk
   rw [if_pos (by rw [h01 _ hne hc.1.1,hc.1.2,hc.2]; rfl),putO_comm (Ne.symm hne)]
  ·cases h
 | _ =>
  simp only [takeIn] at h ⊢
  first
   | (
    injection h with h
    simp only [Prod.mk.injEq] at h
    obtain ⟨rfl,rfl⟩:=h
    rfl)
   | (cases h; done)
theorem takeInL_frame:∀ {ds es':List DV} {old:Bool} {fr0 fr1:Nat→Bool} {k:Nat} {es:List DV} {ob o2:OB} {id:Nat},takeInL old fr0 ob id ds=some (es',o2)→(∀ e∈es',e.mentions k=false)→(∀ j,j≠k→fr0 j=true→fr1 j=true)→takeInL old fr1 (putO ob k es) id ds=some (es',putO o2 k es)
 | [],es',old,fr0,fr1,k,es,ob,o2,id,h,_,_=>by
  simp only [takeInL,Option.some.injEq,Prod.mk.injEq] at h ⊢
  exact ⟨h.1,by rw [h.2]⟩
 | d :: ds,es',old,fr0,fr1,k,es,ob,o2,id,h,hk,h01=>by
  simp only [takeInL] at h
  split at h
  ·rename_i e ob2 he
   split at h
   ·rename_i es2 ob3 hes
    injection h with h
    simp only [Prod.mk.injEq] at h
    obtain ⟨rfl,rfl⟩:=h
    have q:=takeIn_frame (es:=es) he (hk e (List.mem_cons_self ..)) h01
    have r:=takeInL_frame (es:=es) (fr1:=fun j=>fr1 j && !(DV.mentions j e)) hes (fun x hx=>hk x (List.mem_cons_of_mem _ hx)) (fun j hj hf=>by
     rw [Bool.and_eq_true] at hf ⊢
     exact ⟨h01 j hj hf.1,hf.2⟩)
    simp only [takeInL,q,r]
   ·cases h
  ·cases h
theorem callD_frame {Γ:Fns} {fr0 fr1:Nat→Bool} {f id k:Nat} {es xs:List DV} {ob o2:OB} {v:DV} (hx:∀ x∈xs,x.mentions k=false) (h:callD Γ fr0 f id xs ob=some (v,o2)) (hk:v.mentions k=false) (h01:∀ j,j≠k→fr0 j=true→fr1 j=true) :
  callD Γ fr1 f id xs (putO ob k es)=some (v,putO o2 k es):=by
 unfold callD at h ⊢
 rw [lendArgs_frame hx,oldArgs_frame hx]
 split at h
 ·cases h
 ·rename_i as ha
  try (rw [ha]; simp only)
  split at h
  ·cases h
  ·rename_i r outs hr
   try (rw [hr]; simp only)
   split at h
   ·rename_i hc
    rw [if_pos hc]
    split at h
    ·cases h
    ·rename_i ob1 hp
     rw [putRefs_frame hx hp]
     simp only
     split at h
     ·rename_i ds
      split at h
      ·rename_i es2 ob2 ht
       injection h with h
       simp only [Prod.mk.injEq] at h
       obtain ⟨rfl,rfl⟩:=h
       have hm:∀ e∈es2,e.mentions k=false:=by
        intro e he
        simp only [DV.mentions] at hk
        rw [List.any_eq_false] at hk
        have:=hk e he
        cases e with
        | tup l =>
         have key:∀ {ds es:List DV} {old:Bool} {fr:Nat→Bool} {ob ob1:OB} {id:Nat},takeInL old fr ob id ds=some (es,ob1)→∀ l,DV.tup l∉es:=by
          intro ds
          induction ds with
          | nil=>intro es old fr ob ob1 id h l; simp only [takeInL,Option.some.injEq,Prod.mk.injEq] at h; rw [← h.1]; simp
          | cons d ds ih =>
           intro es old fr ob ob1 id h l
           simp only [takeInL] at h
           split at h
           ·rename_i e0 ob2 he0
            split at h
            ·rename_i es0 ob3 hes0
             injection h with h
             simp only [Prod.mk.injEq] at h
             rw [← h.1]
             intro hm
             rcases List.mem_cons.1 hm with hm | hm
             ·rw [← hm] at he0
              cases d <;> simp only [takeIn] at he0 <;> first | (cases he0; done) | (split at he0 <;> cases he0; done) | (injection he0 with he0; simp only [Prod.mk.injEq,reduceCtorEq,false_and] at he0; done) | (injection he0 with he0; simp [DV.adopt] at he0)
             ·exact ih hes0 l hm
            ·cases h
           ·cases h
         exact absurd he (key ht l)
        | _=>simp_all [DV.mentions]
       have:=takeInL_frame (es:=es) ht hm h01
       simp only [this]
      ·cases h
     ·rename_i d hd
      exact takeIn_frame (es:=es) h hk h01
   ·cases h
/-- What the slots speak of,after one that spoke of nothing is written. -/
theorem ment_putD {k:Nat} {x:Option Nat} {d:DV} {e:Env} (hx:x.isSome=true) (hp:∀ t,x=some t→(Lg.look e t).noM=true):Env.mentions k (putD e x d)=(d.mentions k || Env.mentions k e):=by
 cases x with
 | none=>cases hx
 | some t =>
  exact mentions_put (fun j hj=>by rw [noM_ment (hp t rfl)] at hj; cases hj)
theorem plainDst_spec {o:LOp} {S:LS} (h:plainDst o S=true):∀ t,o.dst=some t→(Lg.look S.sl t).noM=true:=by
 intro t ht
 unfold plainDst at h
 rw [ht] at h
 exact h
theorem plainDst_congr {o:LOp} {S T:LS} (h:AgD o S T):plainDst o S=plainDst o T:=by
 unfold plainDst
 cases hx:o.dst with
 | none=>rfl
 | some x=>simp only [h x hx]
theorem callO_step {Γ:Fns} {o:LOp} (hc:callO o=true) {S S1:LS} (h:stepL Γ o S=some S1) :
  ∃ v ob,S1=⟨putD S.sl o.dst v,ob⟩∧∀ (k:Nat) (es:List DV) (T:LS),Ag o S T→T.ob=putO S.ob k es→(∀ x∈o.args.map S.get,x.mentions k=false)→v.mentions k=false→(∀ j,j≠k→frS S j=true→frS T j=true)→stepL Γ o T=some ⟨putD T.sl o.dst v,putO ob k es⟩:=by
 obtain ⟨dst,kk,args,g⟩:=o
 simp only [callO,Bool.and_eq_true] at hc
 obtain ⟨⟨h1,h2⟩,h3⟩:=hc
 cases g with
 | some p=>cases h2
 | none =>
  rw [stepL_go] at h
  simp only [goL] at h
  split at h
  ·rename_i v ob he
   injection h with h
   refine ⟨v,ob,h.symm,fun k es T ha hob hx hv h01=>?_⟩
   rw [stepL_go]
   simp only [goL]
   have hget:args.map T.get=args.map S.get:=ha.get.symm
   rw [hget,hob]
   cases kk with
   | call f id =>
    rw [eff_call] at he ⊢
    rw [callD_frame (es:=es) hx he hv h01]
   | calld id =>
    rw [eff_calld] at he ⊢
    obtain ⟨f,cs,ys,hxs,hcp,he⟩:=calldD_some he
    rw [hxs] at hx ⊢
    simp only [calldD,if_pos hcp]
    have hx':=mentions_fnArgs hcp fun x hm=>hx x (List.mem_cons_of_mem _ hm)
    rw [callD_frame (es:=es) hx' he hv h01]
   | _=>cases h1
  ·cases h
theorem frS_of {S:LS} {id:Nat} (h:frS S id=true):id % 8≠7∧Env.mentions id S.sl=false:=by
 simp only [frS,Bool.and_eq_true,Bool.not_eq_true',beq_eq_false_iff_ne] at h
 exact h
theorem frS_mk {S:LS} {id:Nat} (h1:id % 8≠7) (h2:Env.mentions id S.sl=false):frS S id=true:=by
 simp only [frS,Bool.and_eq_true,Bool.not_eq_true',beq_eq_false_iff_ne]
 exact ⟨h1,h2⟩
theorem lit_dst {o:LOp} (h:litO o=true):o.dst.isSome=true:=by
 simp only [litO,Bool.and_eq_true] at h
 exact h.2
theorem call_dst {o:LOp} (h:callO o=true):o.dst.isSome=true:=by
 simp only [callO,Bool.and_eq_true] at h
 exact h.2
/-- First the call,then the one that makes: the other way it is the same. -/
theorem call_lit {Γ:Fns} {i j:LOp} (hpj:plainO j=true) (hap:apartL j i=true) (hj:callO j=true) (hi:litO i=true) {S S1 S2:LS} (dj:plainDst j S=true) (di:plainDst i S1=true) (sj:stepL Γ j S=some S1) (si:stepL Γ i S1=some S2) :
  ∃ T1,stepL Γ i S=some T1∧stepL Γ j T1=some S2:=by
 obtain ⟨p1,p2,p3⟩:=apartL_spec hap
 have p2':∀ d,i.dst=some d→j.dst≠some d:=fun d hi hj=>p2 d hj hi
 obtain ⟨v,ob,rfl,hcall⟩:=callO_step hj sj
 obtain ⟨id,d,es,hf,⟨hd1,hd2⟩,rfl,hlit⟩:=lit_step hi si
 obtain ⟨f1,f2⟩:=frS_of hf
 have m1:=fun k=>ment_putD (k:=k) (d:=v) (e:=S.sl) (call_dst hj) (plainDst_spec dj)
 have f2':=f2
 simp only at f2'
 rw [m1,Bool.or_eq_false_iff] at f2'
 have fS:=frS_mk f1 f2'.2
 have s1:=hlit S fS
 have di':plainDst i S=true:=by
  rw [plainDst_congr (agD_step (S:=S) (S1:=⟨putD S.sl j.dst v,ob⟩) rfl p2).2]
  exact di
 have aj:=ag_step (S:=S) (S1:=⟨putD S.sl i.dst d,putO S.ob id es⟩) rfl p3
 refine ⟨⟨putD S.sl i.dst d,putO S.ob id es⟩,s1,?_⟩
 rw [hcall id es ⟨putD S.sl i.dst d,putO S.ob id es⟩ aj.2 rfl (fun x hx=>by
  cases hm:x.mentions id with
  | false=>rfl
  | true=>have:=args_plain hpj hx hm; rw [f2'.2] at this; cases this) f2'.1 (fun k hk hfk=>by
  obtain ⟨g1,g2⟩:=frS_of hfk
  refine frS_mk g1 ?_
  show Env.mentions k (putD S.sl i.dst d)=false
  rw [ment_putD (lit_dst hi) (plainDst_spec di'),g2]
  cases hm:d.mentions k with
  | false=>rfl
  | true=>exact absurd (hd2 k hm) hk)]
 rw [putD_comm p2']
theorem putRefs_unframe:∀ {m old:Bool} {xs cs:List DV} {ob o2:OB} {k:Nat} {es:List DV},(∀ x∈xs,x.mentions k=false)→putRefs m old (putO ob k es) xs cs=some o2→∃ o3,putRefs m old ob xs cs=some o3∧o2=putO o3 k es
 | m,old,[],[],ob,o2,k,es,_,h=>by
  simp only [putRefs,Option.some.injEq] at h
  exact ⟨ob,rfl,h.symm⟩
 | m,old,[],_ :: _,ob,o2,k,es,_,h=>by cases h
 | m,old,d :: ds,cs,ob,o2,k,es,hn,h=>by
  have hd:=hn d (List.mem_cons_self ..)
  have hds:∀ x∈ds,x.mentions k=false:=fun x hx=>hn x (List.mem_cons_of_mem _ hx)
  cases hro:refOf m d with
  | none =>
   rw [putRefs_cons hro] at h ⊢
   exact putRefs_unframe hds h
  | some k0 =>
   cases d with
   | oad k1 n a o =>
    have hj:k≠k1:=by intro e; simp [DV.mentions,e] at hd
    cases cs with
    | nil=>cases h
    | cons c cs =>
     simp only [putRefs] at h ⊢
     rw [putO_comm hj] at h
     exact putRefs_unframe hds h
   | own k1 n lo hi =>
    have hj:k≠k1:=by intro e; simp [DV.mentions,e] at hd
    cases m with
    | false=>cases hro
    | true =>
     simp only [putRefs,if_true] at h ⊢
     split at h
     ·rw [putO_comm hj] at h
      exact putRefs_unframe hds h
     ·cases h
   | giv k1 n=>simp [DV.mentions] at hd
   | _=>cases hro
theorem takeIn_unframe {old:Bool} {fr1 fr0:Nat→Bool} {k:Nat} {es:List DV} (h1:fr1 k=false) (h10:∀ j,fr1 j=true→fr0 j=true) {ob o2:OB} {id:Nat} {d e:DV} (h:takeIn old fr1 (putO ob k es) id d=some (e,o2)):∃ o3,takeIn old fr0 ob id d=some (e,o3)∧o2=putO o3 k es∧e.mentions k=false:=by
 have ne:∀ j,fr1 j=true→k≠j:=fun j hj e=>by rw [← e,h1] at hj; cases hj
 cases d with
 | fr sz l =>
  simp only [takeIn] at h ⊢
  split at h
  ·rename_i hc
   rw [Bool.and_eq_true,Bool.and_eq_true] at hc
   injection h with h
   simp only [Prod.mk.injEq] at h
   obtain ⟨rfl,rfl⟩:=h
   have hk:=ne _ hc.1.1
   refine ⟨putO ob (id+8 * sz) (adoptL old l),?_,putO_comm hk ob,?_⟩
   ·rw [if_pos (by rw [h10 _ hc.1.1,hc.1.2,hc.2]; rfl)]
   ·simp only [DV.mentions,beq_eq_false_iff_ne]; exact fun e=>hk e.symm
  ·cases h
 | ref c =>
  simp only [takeIn] at h ⊢
  split at h
  ·rename_i hc
   rw [Bool.and_eq_true,Bool.and_eq_true] at hc
   injection h with h
   simp only [Prod.mk.injEq] at h
   obtain ⟨rfl,rfl⟩:=h
   have hk:=ne _ hc.1.1
   refine ⟨putO ob (id+8 * c.cells.length) [c.adopt old],?_,putO_comm hk ob,?_⟩
   ·rw [if_pos (by rw [h10 _ hc.1.1,hc.1.2,hc.2]; rfl)]
   ·simp only [DV.mentions,beq_eq_false_iff_ne]; exact fun e=>hk e.symm
  ·cases h
 | _ =>
  simp only [takeIn] at h ⊢
  first
   | (
    injection h with h
    simp only [Prod.mk.injEq] at h
    obtain ⟨rfl,rfl⟩:=h
    exact ⟨ob,rfl,rfl,rfl⟩)
   | (cases h; done)
theorem takeInL_unframe:∀ {ds es':List DV} {old:Bool} {fr1 fr0:Nat→Bool} {k:Nat} {es:List DV} {ob o2:OB} {id:Nat},fr1 k=false→(∀ j,fr1 j=true→fr0 j=true)→takeInL old fr1 (putO ob k es) id ds=some (es',o2) →
  ∃ o3,takeInL old fr0 ob id ds=some (es',o3)∧o2=putO o3 k es∧∀ e∈es',e.mentions k=false
 | [],es',old,fr1,fr0,k,es,ob,o2,id,h1,h10,h=>by
  simp only [takeInL,Option.some.injEq,Prod.mk.injEq] at h
  obtain ⟨rfl,rfl⟩:=h
  exact ⟨ob,rfl,rfl,by simp⟩
 | d :: ds,es',old,fr1,fr0,k,es,ob,o2,id,h1,h10,h=>by
  simp only [takeInL] at h
  split at h
  ·rename_i e ob2 he
   split at h
   ·rename_i es2 ob3 hes
    injection h with h
    simp only [Prod.mk.injEq] at h
    obtain ⟨rfl,rfl⟩:=h
    obtain ⟨q,q1,rfl,q3⟩:=takeIn_unframe h1 h10 he
    obtain ⟨r,r1,rfl,r3⟩:=takeInL_unframe (fr0:=fun j=>fr0 j && !(DV.mentions j e)) (by simp [h1]) (fun j hj=>by
     rw [Bool.and_eq_true] at hj ⊢
     exact ⟨h10 j hj.1,hj.2⟩) hes
    refine ⟨r,?_,rfl,fun x hx=>?_⟩
    ·simp only [takeInL,q1,r1]
    ·rcases List.mem_cons.1 hx with rfl | hx
     ·exact q3
     ·exact r3 x hx
   ·cases h
  ·cases h
theorem callD_unframe {Γ:Fns} {fr1 fr0:Nat→Bool} {f id k:Nat} {es xs:List DV} {ob o2:OB} {v:DV} (h1:fr1 k=false) (h10:∀ j,fr1 j=true→fr0 j=true) (hx:∀ x∈xs,x.mentions k=false) (h:callD Γ fr1 f id xs (putO ob k es)=some (v,o2)) :
  ∃ o3,callD Γ fr0 f id xs ob=some (v,o3)∧o2=putO o3 k es∧v.mentions k=false:=by
 unfold callD at h ⊢
 rw [lendArgs_frame hx,oldArgs_frame hx] at h
 split at h
 ·cases h
 ·rename_i as ha
  try (rw [ha]; simp only)
  split at h
  ·cases h
  ·rename_i r outs hr
   try (rw [hr]; simp only)
   split at h
   ·rename_i hc
    rw [if_pos hc]
    split at h
    ·cases h
    ·rename_i ob1 hp
     obtain ⟨q,q1,rfl⟩:=putRefs_unframe hx hp
     rw [q1]
     simp only
     split at h
     ·rename_i ds
      split at h
      ·rename_i es2 ob2 ht
       injection h with h
       simp only [Prod.mk.injEq] at h
       obtain ⟨rfl,rfl⟩:=h
       obtain ⟨s,s1,rfl,s3⟩:=takeInL_unframe h1 h10 ht
       refine ⟨s,by simp only [s1],rfl,?_⟩
       simp only [DV.mentions]
       rw [List.any_eq_false]
       intro x hx'
       have:=s3 x hx'
       cases x <;> simp_all [DV.mentions]
      ·cases h
     ·exact takeIn_unframe h1 h10 h
   ·cases h
theorem callO_back {Γ:Fns} {o:LOp} (hc:callO o=true) {S1 S2:LS} (h:stepL Γ o S1=some S2) {k:Nat} {es:List DV} {S:LS} (ha:Ag o S S1) (hob:S1.ob=putO S.ob k es) (hx:∀ x∈o.args.map S.get,x.mentions k=false) (h1:frS S1 k=false) (h10:∀ j,frS S1 j=true→frS S j=true) :
  ∃ v ob,stepL Γ o S=some ⟨putD S.sl o.dst v,ob⟩∧S2=⟨putD S1.sl o.dst v,putO ob k es⟩∧v.mentions k=false:=by
 obtain ⟨dst,kk,args,g⟩:=o
 simp only [callO,Bool.and_eq_true] at hc
 obtain ⟨⟨q1,q2⟩,q3⟩:=hc
 cases g with
 | some p=>cases q2
 | none =>
  rw [stepL_go] at h
  simp only [goL] at h
  have hget:args.map S1.get=args.map S.get:=ha.get.symm
  rw [hget,hob] at h
  split at h
  ·rename_i v ob he
   injection h with h
   cases kk with
   | call f id =>
    rw [eff_call] at he
    obtain ⟨o3,r1,rfl,r3⟩:=callD_unframe h1 h10 hx he
    refine ⟨v,o3,?_,h.symm,r3⟩
    rw [stepL_go]
    simp only [goL,eff_call,r1]
   | calld id =>
    rw [eff_calld] at he
    obtain ⟨f,cs,ys,hxs,hcp,he⟩:=calldD_some he
    have hx':=mentions_fnArgs hcp fun x hm=>hx x (by rw [hxs]; exact List.mem_cons_of_mem _ hm)
    obtain ⟨o3,r1,rfl,r3⟩:=callD_unframe h1 h10 hx' he
    refine ⟨v,o3,?_,h.symm,r3⟩
    rw [stepL_go]
    simp only [goL,eff_calld]
    rw [hxs]
    simp only [calldD,if_pos hcp,r1]
   | _=>cases q1
  ·cases h
/-- First the one that makes,then the call. -/
theorem lit_call {Γ:Fns} {i j:LOp} (hpi:plainO i=true) (hap:apartL j i=true) (hj:litO j=true) (hi:callO i=true) {S S1 S2:LS} (dj:plainDst j S=true) (di:plainDst i S1=true) (sj:stepL Γ j S=some S1) (si:stepL Γ i S1=some S2) :
  ∃ T1,stepL Γ i S=some T1∧stepL Γ j T1=some S2:=by
 obtain ⟨p1,p2,p3⟩:=apartL_spec hap
 obtain ⟨id,d,es,hf,⟨hd1,hd2⟩,rfl,hlit⟩:=lit_step hj sj
 obtain ⟨f1,f2⟩:=frS_of hf
 have m1:=fun k=>ment_putD (k:=k) (d:=d) (e:=S.sl) (lit_dst hj) (plainDst_spec dj)
 have ai:=ag_step (S:=S) (S1:=⟨putD S.sl j.dst d,putO S.ob id es⟩) rfl p1
 have di':plainDst i S=true:=by
  rw [plainDst_congr (agD_step (S:=S) (S1:=⟨putD S.sl j.dst d,putO S.ob id es⟩) rfl p2).2]
  exact di
 obtain ⟨v,ob,s1,rfl,hv⟩:=callO_back hi si ai.2 rfl (fun x hx=>by
  cases hm:x.mentions id with
  | false=>rfl
  | true=>have:=args_plain hpi hx hm; rw [f2] at this; cases this) (by
  simp only [frS,m1,hd1]; simp) (fun k hk=>by
  obtain ⟨g1,g2⟩:=frS_of hk
  simp only at g2
  rw [m1,Bool.or_eq_false_iff] at g2
  exact frS_mk g1 g2.2)
 refine ⟨_,s1,?_⟩
 rw [hlit ⟨putD S.sl i.dst v,ob⟩ (frS_mk f1 (by
  show Env.mentions id (putD S.sl i.dst v)=false
  rw [ment_putD (call_dst hi) (plainDst_spec di'),hv,f2]; rfl))]
 simp only
 rw [putD_comm p2]
/-- The foot of a pair. -/
theorem pair_foot {L:List Nat} {o:LOp} {S:LS} (h:okStep (.pair L) o S=true):okStep (.foot L) o S=true:=by
 simp only [okStep] at h ⊢
 split at h
 ·rename_i hw; rw [if_pos hw]; rw [Bool.and_eq_true] at h; exact h.1
 ·rename_i hw; rw [if_neg hw]; exact h
theorem foot_pair {L:List Nat} {o:LOp} {S T:LS} (hd:AgD o S T) (h:okStep (.pair L) o S=true) (hf:okStep (.foot L) o T=true):okStep (.pair L) o T=true:=by
 simp only [okStep] at h hf ⊢
 split
 ·rename_i hw
  rw [if_pos hw] at h hf
  rw [Bool.and_eq_true] at h ⊢
  exact ⟨hf,by rw [← plainDst_congr hd]; exact h.2⟩
 ·rename_i hw; rw [if_neg hw] at hf; exact hf
theorem pair_dst {L:List Nat} {o:LOp} {S:LS} (hw:o.k.isW=true) (h:okStep (.pair L) o S=true):clears L o S=true∧plainDst o S=true:=by
 simp only [okStep,hw,if_true,Bool.and_eq_true] at h
 exact h
theorem swap_pair {Γ:Fns} {L:List Nat} {i j:LOp} (hpi:plainO i=true) (hpj:plainO j=true) (hap:apartL j i=true) (hw:j.k.isW=true∧i.k.isW=true→litPair j i=true) {S S1 S2:LS} (oj:okStep (.pair L) j S=true) (sj:stepL Γ j S=some S1) (oi:okStep (.pair L) i S1=true) (si:stepL Γ i S1=some S2) :
  ∃ T1,okStep (.pair L) i S=true∧stepL Γ i S=some T1∧okStep (.pair L) j T1=true∧stepL Γ j T1=some S2:=by
 obtain ⟨p1,p2,p3⟩:=apartL_spec hap
 have p2':∀ d,i.dst=some d→j.dst≠some d:=fun d hi hj=>p2 d hj hi
 obtain ⟨dj,ej,_⟩:=stepL_any sj
 have ai:=ag_step ej p1
 have bi:=agD_step ej p2
 by_cases hb:j.k.isW=true∧i.k.isW=true
 ·have hl:=hw hb
  obtain ⟨cj,pj⟩:=pair_dst hb.1 oj
  obtain ⟨ci,pi⟩:=pair_dst hb.2 oi
  obtain ⟨T1,s1,s2⟩:∃ T1,stepL Γ i S=some T1∧stepL Γ j T1=some S2:=by
   unfold litPair at hl
   rw [Bool.or_eq_true,Bool.and_eq_true,Bool.and_eq_true] at hl
   rcases hl with hl | hl
   ·exact lit_call hpi hap hl.1 hl.2 pj pi sj si
   ·exact call_lit hpj hap hl.1 hl.2 pj pi sj si
  obtain ⟨di,ei,_⟩:=stepL_any s1
  have aj:=ag_step ei p3
  have bj:=agD_step ei p2'
  refine ⟨T1,?_,s1,?_,s2⟩
  ·simp only [okStep,hb.2,if_true,Bool.and_eq_true]
   exact ⟨by rw [← clears_congr ai.1]; exact ci,by rw [← plainDst_congr bi.1]; exact pi⟩
  ·simp only [okStep,hb.1,if_true,Bool.and_eq_true]
   exact ⟨by rw [clears_congr aj.1]; exact cj,by rw [plainDst_congr bj.1]; exact pj⟩
 ·obtain ⟨T1,q1,q2,q3,q4⟩:=swap_foot hpi hpj hap hb (pair_foot oj) sj (pair_foot oi) si
  obtain ⟨di,ei,_⟩:=stepL_any q2
  have bj:=agD_step ei p2'
  exact ⟨T1,foot_pair bi.1 oi q1,q2,foot_pair bj.2 oj q3,q4⟩
/-- The feed of a pair. -/
theorem pairf_feed {L1 L2 F:List Nat} {o:LOp} {S:LS} (h:okStep (.pairf L1 L2 F) o S=true):okStep (.feed L1 L2 F) o S=true:=by
 simp only [okStep] at h ⊢
 split at h
 ·rename_i hw; rw [if_pos hw]; rw [Bool.and_eq_true] at h; exact h.1
 ·rename_i hw; rw [if_neg hw]; exact h
theorem feed_pairf {L1 L2 F:List Nat} {o:LOp} {S T:LS} (hd:AgD o S T) (h:okStep (.pairf L1 L2 F) o S=true) (hf:okStep (.feed L1 L2 F) o T=true):okStep (.pairf L1 L2 F) o T=true:=by
 simp only [okStep] at h hf ⊢
 split
 ·rename_i hw
  rw [if_pos hw] at h hf
  rw [Bool.and_eq_true] at h ⊢
  exact ⟨hf,by rw [← plainDst_congr hd]; exact h.2⟩
 ·rename_i hw; rw [if_neg hw] at hf; exact hf
theorem pairf_dst {L1 L2 F:List Nat} {o:LOp} {S:LS} (hw:o.k.isW=true) (h:okStep (.pairf L1 L2 F) o S=true):(if o.k.isApp=true then clears L1 o S && allIn F (argT o.args) else clears L2 o S)=true∧plainDst o S=true:=by
 simp only [okStep,hw,if_true,Bool.and_eq_true] at h
 exact h
theorem swap_pairf {Γ:Fns} {L1 L2 F:List Nat} {i j:LOp} (hpi:plainO i=true) (hpj:plainO j=true) (hap:apartL j i=true) (hw:j.k.isW=true∧i.k.isW=true→litPair j i=true) {S S1 S2:LS} (oj:okStep (.pairf L1 L2 F) j S=true) (sj:stepL Γ j S=some S1) (oi:okStep (.pairf L1 L2 F) i S1=true) (si:stepL Γ i S1=some S2) :
  ∃ T1,okStep (.pairf L1 L2 F) i S=true∧stepL Γ i S=some T1∧okStep (.pairf L1 L2 F) j T1=true∧stepL Γ j T1=some S2:=by
 obtain ⟨p1,p2,p3⟩:=apartL_spec hap
 have p2':∀ d,i.dst=some d→j.dst≠some d:=fun d hi hj=>p2 d hj hi
 obtain ⟨dj,ej,_⟩:=stepL_any sj
 have ai:=ag_step ej p1
 have bi:=agD_step ej p2
 by_cases hb:j.k.isW=true∧i.k.isW=true
 ·have hl:=hw hb
  obtain ⟨cj,pj⟩:=pairf_dst hb.1 oj
  obtain ⟨ci,pi⟩:=pairf_dst hb.2 oi
  obtain ⟨T1,s1,s2⟩:∃ T1,stepL Γ i S=some T1∧stepL Γ j T1=some S2:=by
   unfold litPair at hl
   rw [Bool.or_eq_true,Bool.and_eq_true,Bool.and_eq_true] at hl
   rcases hl with hl | hl
   ·exact lit_call hpi hap hl.1 hl.2 pj pi sj si
   ·exact call_lit hpj hap hl.1 hl.2 pj pi sj si
  obtain ⟨di,ei,_⟩:=stepL_any s1
  have aj:=ag_step ei p3
  have bj:=agD_step ei p2'
  refine ⟨T1,?_,s1,?_,s2⟩
  ·simp only [okStep,hb.2,if_true,Bool.and_eq_true]
   exact ⟨by rw [← clears_congr (L:=L1) ai.1,← clears_congr (L:=L2) ai.1]; simpa only [Bool.and_eq_true] using ci,by rw [← plainDst_congr bi.1]; exact pi⟩
  ·simp only [okStep,hb.1,if_true,Bool.and_eq_true]
   exact ⟨by rw [clears_congr (L:=L1) aj.1,clears_congr (L:=L2) aj.1]; simpa only [Bool.and_eq_true] using cj,by rw [plainDst_congr bj.1]; exact pj⟩
 ·obtain ⟨T1,q1,q2,q3,q4⟩:=swap_feed hpi hpj hap hb (pairf_feed oj) sj (pairf_feed oi) si
  obtain ⟨di,ei,_⟩:=stepL_any q2
  have bj:=agD_step ei p2'
  exact ⟨T1,feed_pairf bi.1 oi q1,q2,feed_pairf bj.2 oj q3,q4⟩
theorem lookO_putne {ob:OB} {k j:Nat} {es:List DV} (h:j≠k):lookO (putO ob k es) j=lookO ob j:=by rw [lookO_put,if_neg h]
theorem elems_frame {ob:OB} {k:Nat} {es:List DV} {x:DV} (h:x.mentions k=false):elems (putO ob k es) x=elems ob x:=by
 refine elems_loc fun id hid=>lookO_putne fun e=>?_
 subst e
 rw [hid] at h; cases h
theorem settle_scal {ob:OB} {x:DV} (h:scal x=true):settle ob x=some (x,ob):=by
 cases x <;> first | rfl | cases h
theorem settleL_scal:∀ {xs:List DV} {ob:OB},xs.all scal=true→settleL ob xs=some (xs,ob)
 | [],_,_=>rfl
 | x :: xs,ob,h=>by
  rw [List.all_cons,Bool.and_eq_true] at h
  simp only [settleL]
  rw [settle_scal h.1]
  simp only [settleL_scal h.2]
theorem litV_step {Γ:Fns} {o:LOp} (hl:litV o=true) {S S1:LS} (hs:scalA o.k (o.args.map S.get)=true) (h:stepL Γ o S=some S1) :
  ∃ id d es,frS S id=true∧(d.mentions id=true∧∀ k,d.mentions k=true→k=id)∧S1=⟨putD S.sl o.dst d,putO S.ob id es⟩∧∀ T,Ag o S T→frS T id=true→stepL Γ o T=some ⟨putD T.sl o.dst d,putO T.ob id es⟩:=by
 obtain ⟨dst,k,args,g⟩:=o
 simp only [litV,Bool.and_eq_true] at hl
 obtain ⟨⟨h1,h2⟩,h3⟩:=hl
 cases g with
 | some p=>cases h2
 | none =>
  cases k with
  | bslice id len sz z ps =>
   simp only [Bool.not_eq_true',beq_eq_false_iff_ne,ne_eq] at h1
   simp only [scalA,K.isLit,if_true] at hs
   have step:∀ T:LS,args.map T.get=args.map S.get→stepL Γ ⟨dst,.bslice id len sz z ps,args,none⟩ T=match (if frS T id=true then (fillE sz (List.replicate len z) ps (args.map S.get)).map fun es=>(DV.own id len 0 len,putO T.ob id es) else none) with
     | some (v,ob)=>some { sl:=putD T.sl dst v,ob }
     | none=>none:=by
    intro T hT
    rw [stepL_go]
    simp only [goL,eff,effP,hT,settleL_scal hs,h1,false_implies,and_true,if_false]
    rfl
   rw [step S rfl] at h
   by_cases hf:frS S id=true
   ·rw [if_pos hf] at h
    cases he:fillE sz (List.replicate len z) ps (args.map S.get) with
    | none=>rw [he] at h; cases h
    | some es =>
     rw [he] at h
     simp only [Option.map_some,Option.some.injEq] at h
     refine ⟨id,.own id len 0 len,es,hf,⟨by simp [DV.mentions],fun k hk=>by simp only [DV.mentions,beq_iff_eq] at hk; exact hk.symm⟩,h.symm,fun T ha hT=>?_⟩
     rw [step T ha.get.symm,if_pos hT,he]
     rfl
   ·rw [if_neg hf] at h; cases h
  | _=>cases h1
theorem app_frame {fr0 fr1:Nat→Bool} {id sz k:Nat} {es xs:List DV} {ob o2:OB} {v:DV} (h:effP fr0 (.app id sz) xs ob=some (v,o2)) (hc:noCel xs=true) (hx:∀ x∈xs,x.mentions k=false) (hv:v.mentions k=false) (h01:∀ j,j≠k→fr0 j=true→fr1 j=true) :
  effP fr1 (.app id sz) xs (putO ob k es)=some (v,putO o2 k es):=by
 simp only [effP] at h ⊢
 split at h
 ·rename_i s x
  have hc':=hc
  clear hc
  have hs:=hx s (List.mem_cons_self ..)
  rw [elems_frame (hx x (List.mem_cons_of_mem _ (List.mem_cons_self ..)))]
  split at h
  ·rename_i news hn
   try simp only [hn]
   split at h
   ·rename_i hc
    rw [if_pos hc]
    split at h
    ·split at h
     ·rename_i hf
      injection h with h
      simp only [Prod.mk.injEq] at h
      obtain ⟨rfl,rfl⟩:=h
      have ne:id≠k:=fun e=>by subst e; simp [DV.mentions] at hv
      rw [if_pos ⟨h01 id ne hf.1,hf.2⟩,putO_comm ne.symm]
     ·cases h
    ·rename_i j n hh
     have ne:j≠k:=fun e=>by subst e; simp [DV.mentions] at hs
     rw [lookO_putne ne]
     split at h
     ·rename_i es0 he
      try simp only [he]
      split at h
      ·rename_i c1
       injection h with h
       simp only [Prod.mk.injEq] at h
       obtain ⟨rfl,rfl⟩:=h
       rw [if_pos c1,putO_comm ne.symm]
      ·rename_i c1
       rw [if_neg c1]
       split at h
       ·rename_i c2
        rw [if_pos c2]
        split at h
        ·rename_i c3
         injection h with h
         simp only [Prod.mk.injEq] at h
         obtain ⟨rfl,rfl⟩:=h
         rw [if_pos c3,putO_comm ne.symm]
        ·rename_i c3
         injection h with h
         simp only [Prod.mk.injEq] at h
         obtain ⟨rfl,rfl⟩:=h
         rw [if_neg c3,putO_comm ne.symm]
       ·cases h
     ·cases h
    ·cases hc'
    ·cases h
   ·cases h
  ·cases h
 ·cases h
theorem app_unframe {fr1 fr0:Nat→Bool} {id sz k:Nat} {es xs:List DV} {ob o2:OB} {v:DV} (h1:fr1 k=false) (h10:∀ j,fr1 j=true→fr0 j=true) (hc:noCel xs=true) (hx:∀ x∈xs,x.mentions k=false) (h:effP fr1 (.app id sz) xs (putO ob k es)=some (v,o2)) :
  ∃ o3,effP fr0 (.app id sz) xs ob=some (v,o3)∧o2=putO o3 k es∧v.mentions k=false:=by
 simp only [effP] at h ⊢
 split at h
 ·rename_i s x
  have hc':=hc
  clear hc
  have hs:=hx s (List.mem_cons_self ..)
  rw [elems_frame (hx x (List.mem_cons_of_mem _ (List.mem_cons_self ..)))] at h
  split at h
  ·rename_i news hn
   try simp only [hn]
   split at h
   ·rename_i hc
    rw [if_pos hc]
    split at h
    ·split at h
     ·rename_i hf
      injection h with h
      simp only [Prod.mk.injEq] at h
      obtain ⟨rfl,rfl⟩:=h
      have ne:id≠k:=fun e=>by subst e; rw [hf.1] at h1; cases h1
      exact ⟨_,by rw [if_pos ⟨h10 id hf.1,hf.2⟩],putO_comm ne.symm _,by simp [DV.mentions,ne]⟩
     ·cases h
    ·rename_i j n hh
     have ne:j≠k:=fun e=>by subst e; simp [DV.mentions] at hs
     rw [lookO_putne ne] at h
     split at h
     ·rename_i es0 he
      try simp only [he]
      split at h
      ·rename_i c1
       injection h with h
       simp only [Prod.mk.injEq] at h
       obtain ⟨rfl,rfl⟩:=h
       exact ⟨_,by rw [if_pos c1],putO_comm ne.symm _,by simp [DV.mentions,ne]⟩
      ·rename_i c1
       rw [if_neg c1]
       split at h
       ·rename_i c2
        rw [if_pos c2]
        split at h
        ·rename_i c3
         injection h with h
         simp only [Prod.mk.injEq] at h
         obtain ⟨rfl,rfl⟩:=h
         exact ⟨_,by rw [if_pos c3],putO_comm ne.symm _,by simp [DV.mentions,ne]⟩
        ·rename_i c3
         injection h with h
         simp only [Prod.mk.injEq] at h
         obtain ⟨rfl,rfl⟩:=h
         exact ⟨_,by rw [if_neg c3],putO_comm ne.symm _,by simp [DV.mentions,ne]⟩
       ·cases h
     ·cases h
    ·cases hc'
    ·cases h
   ·cases h
  ·cases h
 ·cases h
theorem litV_dst {o:LOp} (h:litV o=true):o.dst.isSome=true:=by
 simp only [litV,Bool.and_eq_true] at h
 exact h.2
theorem appV_dst {o:LOp} (h:appV o=true):o.dst.isSome=true:=by
 simp only [appV,Bool.and_eq_true] at h
 exact h.2
theorem appV_step {Γ:Fns} {o:LOp} (hc:appV o=true) {S S1:LS} (hn:scalA o.k (o.args.map S.get)=true) (h:stepL Γ o S=some S1) :
  ∃ v ob,S1=⟨putD S.sl o.dst v,ob⟩∧∀ (k:Nat) (es:List DV) (T:LS),Ag o S T→T.ob=putO S.ob k es→(∀ x∈o.args.map S.get,x.mentions k=false)→v.mentions k=false→(∀ j,j≠k→frS S j=true→frS T j=true)→stepL Γ o T=some ⟨putD T.sl o.dst v,putO ob k es⟩:=by
 obtain ⟨dst,kk,args,g⟩:=o
 simp only [appV,Bool.and_eq_true] at hc
 obtain ⟨⟨h1,h2⟩,h3⟩:=hc
 cases g with
 | some p=>cases h2
 | none =>
  cases kk with
  | app id sz =>
   rw [stepL_go] at h
   simp only [goL,eff] at h
   split at h
   ·rename_i v ob he
    injection h with h
    refine ⟨v,ob,h.symm,fun k es T ha hob hx hv h01=>?_⟩
    rw [stepL_go]
    simp only [goL,eff]
    have hget:args.map T.get=args.map S.get:=ha.get.symm
    rw [hget,hob,app_frame (es:=es) he (by simpa [scalA,K.isLit,K.isApp,K.isMk] using hn) hx hv h01]
   ·cases h
  | _=>cases h1
theorem appV_back {Γ:Fns} {o:LOp} (hc:appV o=true) {S1 S2:LS} (hn:scalA o.k (o.args.map S1.get)=true) (h:stepL Γ o S1=some S2) {k:Nat} {es:List DV} {S:LS} (ha:Ag o S S1) (hob:S1.ob=putO S.ob k es) (hx:∀ x∈o.args.map S.get,x.mentions k=false) (h1:frS S1 k=false) (h10:∀ j,frS S1 j=true→frS S j=true) :
  ∃ v ob,stepL Γ o S=some ⟨putD S.sl o.dst v,ob⟩∧S2=⟨putD S1.sl o.dst v,putO ob k es⟩∧v.mentions k=false:=by
 obtain ⟨dst,kk,args,g⟩:=o
 simp only [appV,Bool.and_eq_true] at hc
 obtain ⟨⟨g1,g2⟩,g3⟩:=hc
 cases g with
 | some p=>cases g2
 | none =>
  cases kk with
  | app id sz =>
   rw [stepL_go] at h
   simp only [goL,eff] at h
   split at h
   ·rename_i v ob he
    injection h with h
    have hget:args.map S1.get=args.map S.get:=ha.get.symm
    rw [hget,hob] at he
    rw [hget] at hn
    obtain ⟨o3,e1,e2,e3⟩:=app_unframe h1 h10 (by simpa [scalA,K.isLit,K.isApp,K.isMk] using hn) hx he
    subst e2
    refine ⟨v,o3,?_,h.symm,e3⟩
    rw [stepL_go]
    simp only [goL,eff,e1]
   ·cases h
  | _=>cases g1
/-- First the append,then the literal. -/
theorem app_lit {Γ:Fns} {i j:LOp} (hpj:plainO j=true) (hap:apartL j i=true) (hj:appV j=true) (hi:litV i=true) {S S1 S2:LS} (dj:plainDst j S=true) (di:plainDst i S1=true) (cj:scalA j.k (j.args.map S.get)=true) (ci:scalA i.k (i.args.map S1.get)=true) (sj:stepL Γ j S=some S1) (si:stepL Γ i S1=some S2) :
  ∃ T1,stepL Γ i S=some T1∧stepL Γ j T1=some S2:=by
 obtain ⟨p1,p2,p3⟩:=apartL_spec hap
 have p2':∀ d,i.dst=some d→j.dst≠some d:=fun d hi hj=>p2 d hj hi
 obtain ⟨v,ob,rfl,hcall⟩:=appV_step hj cj sj
 obtain ⟨id,d,es,hf,⟨hd1,hd2⟩,rfl,hlit⟩:=litV_step hi ci si
 obtain ⟨f1,f2⟩:=frS_of hf
 have m1:=fun k=>ment_putD (k:=k) (d:=v) (e:=S.sl) (appV_dst hj) (plainDst_spec dj)
 have f2':=f2
 simp only at f2'
 rw [m1,Bool.or_eq_false_iff] at f2'
 have fS:=frS_mk f1 f2'.2
 have ai:=ag_step (S:=S) (S1:=⟨putD S.sl j.dst v,ob⟩) rfl p1
 have s1:=hlit S ai.1 fS
 have di':plainDst i S=true:=by
  rw [plainDst_congr (agD_step (S:=S) (S1:=⟨putD S.sl j.dst v,ob⟩) rfl p2).2]
  exact di
 have aj:=ag_step (S:=S) (S1:=⟨putD S.sl i.dst d,putO S.ob id es⟩) rfl p3
 refine ⟨⟨putD S.sl i.dst d,putO S.ob id es⟩,s1,?_⟩
 rw [hcall id es ⟨putD S.sl i.dst d,putO S.ob id es⟩ aj.2 rfl (fun x hx=>by
  cases hm:x.mentions id with
  | false=>rfl
  | true=>have:=args_plain hpj hx hm; rw [f2'.2] at this; cases this) f2'.1 (fun k hk hfk=>by
  obtain ⟨g1,g2⟩:=frS_of hfk
  refine frS_mk g1 ?_
  show Env.mentions k (putD S.sl i.dst d)=false
  rw [ment_putD (litV_dst hi) (plainDst_spec di'),g2]
  cases hm:d.mentions k with
  | false=>rfl
  | true=>exact absurd (hd2 k hm) hk)]
 rw [putD_comm p2']
/-- First the literal,then the append. -/
theorem lit_app {Γ:Fns} {i j:LOp} (hpi:plainO i=true) (hap:apartL j i=true) (hj:litV j=true) (hi:appV i=true) {S S1 S2:LS} (dj:plainDst j S=true) (di:plainDst i S1=true) (cj:scalA j.k (j.args.map S.get)=true) (ci:scalA i.k (i.args.map S1.get)=true) (sj:stepL Γ j S=some S1) (si:stepL Γ i S1=some S2) :
  ∃ T1,stepL Γ i S=some T1∧stepL Γ j T1=some S2:=by
 obtain ⟨p1,p2,p3⟩:=apartL_spec hap
 obtain ⟨id,d,es,hf,⟨hd1,hd2⟩,rfl,hlit⟩:=litV_step hj cj sj
 obtain ⟨f1,f2⟩:=frS_of hf
 have m1:=fun k=>ment_putD (k:=k) (d:=d) (e:=S.sl) (litV_dst hj) (plainDst_spec dj)
 have ai:=ag_step (S:=S) (S1:=⟨putD S.sl j.dst d,putO S.ob id es⟩) rfl p1
 have di':plainDst i S=true:=by
  rw [plainDst_congr (agD_step (S:=S) (S1:=⟨putD S.sl j.dst d,putO S.ob id es⟩) rfl p2).2]
  exact di
 obtain ⟨v,ob,s1,rfl,hv⟩:=appV_back hi ci si ai.2 rfl (fun x hx=>by
  cases hm:x.mentions id with
  | false=>rfl
  | true=>have:=args_plain hpi hx hm; rw [f2] at this; cases this) (by
  simp only [frS,m1,hd1]; simp) (fun k hk=>by
  obtain ⟨g1,g2⟩:=frS_of hk
  simp only at g2
  rw [m1,Bool.or_eq_false_iff] at g2
  exact frS_mk g1 g2.2)
 refine ⟨_,s1,?_⟩
 have aj:=ag_step (S:=S) (S1:=⟨putD S.sl i.dst v,ob⟩) rfl p3
 rw [hlit ⟨putD S.sl i.dst v,ob⟩ aj.2 (frS_mk f1 (by
  show Env.mentions id (putD S.sl i.dst v)=false
  rw [ment_putD (appV_dst hi) (plainDst_spec di'),hv,f2]; rfl))]
 simp only
 rw [putD_comm p2]
/-- Two literals. -/
theorem lit_lit {Γ:Fns} {i j:LOp} (hap:apartL j i=true) (hj:litV j=true) (hi:litV i=true) {S S1 S2:LS} (dj:plainDst j S=true) (di:plainDst i S1=true) (cj:scalA j.k (j.args.map S.get)=true) (ci:scalA i.k (i.args.map S1.get)=true) (sj:stepL Γ j S=some S1) (si:stepL Γ i S1=some S2) :
  ∃ T1,stepL Γ i S=some T1∧stepL Γ j T1=some S2:=by
 obtain ⟨p1,p2,p3⟩:=apartL_spec hap
 obtain ⟨id,d,es,hf,⟨hd1,hd2⟩,rfl,hlit⟩:=litV_step hj cj sj
 obtain ⟨id2,d2,es2,hf2,⟨hd3,hd4⟩,rfl,hlit2⟩:=litV_step hi ci si
 obtain ⟨f1,f2⟩:=frS_of hf
 obtain ⟨f3,f4⟩:=frS_of hf2
 have m1:=fun k=>ment_putD (k:=k) (d:=d) (e:=S.sl) (litV_dst hj) (plainDst_spec dj)
 have ai:=ag_step (S:=S) (S1:=⟨putD S.sl j.dst d,putO S.ob id es⟩) rfl p1
 have di':plainDst i S=true:=by
  rw [plainDst_congr (agD_step (S:=S) (S1:=⟨putD S.sl j.dst d,putO S.ob id es⟩) rfl p2).2]
  exact di
 simp only at f4
 rw [m1,Bool.or_eq_false_iff] at f4
 have ne:id≠id2:=fun e=>by rw [← e,hd1] at f4; cases f4.1
 have s1:=hlit2 S ai.1 (frS_mk f3 f4.2)
 refine ⟨_,s1,?_⟩
 have aj:=ag_step (S:=S) (S1:=⟨putD S.sl i.dst d2,putO S.ob id2 es2⟩) rfl p3
 rw [hlit ⟨putD S.sl i.dst d2,putO S.ob id2 es2⟩ aj.2 (frS_mk f1 (by
  show Env.mentions id (putD S.sl i.dst d2)=false
  rw [ment_putD (litV_dst hi) (plainDst_spec di'),f2]
  cases hm:d2.mentions id with
  | false=>rfl
  | true=>exact absurd (hd4 id hm) ne))]
 simp only
 rw [putD_comm p2,putO_comm ne]
theorem capArg_capV {x:DV} (h:capV x=true) (ob:OB):capArg ob x=some (x,ob):=by
 cases x <;> first | rfl | cases h
theorem capL_capV:∀ {xs:List DV},xs.all capV=true→∀ ob:OB,capL ob xs=some (xs,ob)
 | [],_,_=>rfl
 | x :: xs,h,ob=>by
  rw [List.all_cons,Bool.and_eq_true] at h
  simp only [capL]
  rw [capArg_capV h.1]
  simp only [capL_capV h.2]
theorem mkV_step {Γ:Fns} {o:LOp} (hl:mkV o=true) {S S1:LS} (hs:scalA o.k (o.args.map S.get)=true) (h:stepL Γ o S=some S1) :
  ∃ v:DV,(∀ k,v.mentions k=false)∧S1=⟨putD S.sl o.dst v,S.ob⟩∧∀ T,Ag o S T→stepL Γ o T=some ⟨putD T.sl o.dst v,T.ob⟩:=by
 obtain ⟨dst,k,args,g⟩:=o
 simp only [mkV,Bool.and_eq_true] at hl
 obtain ⟨⟨h1,h2⟩,h3⟩:=hl
 cases g with
 | some p=>cases h2
 | none =>
  cases k with
  | mkfn f =>
   have e0:¬ f % 2=1:=by
    have:f % 2=0:=by simpa using h1
    omega
   simp only [scalA,K.isLit,K.isApp,K.isMk,Bool.false_eq_true,if_false,if_true] at hs
   have step:∀ T:LS,args.map T.get=args.map S.get→stepL Γ ⟨dst,.mkfn f,args,none⟩ T=some ⟨putD T.sl dst (.fn (f / 2) (args.map S.get)),T.ob⟩:=by
    intro T hT
    rw [stepL_go]
    simp only [goL,eff,effP,hT,fnIn,if_neg e0,capL_capV hs]
   rw [step S rfl] at h
   injection h with h
   exact ⟨_,fun _=>rfl,h.symm,fun T ha=>step T ha.get.symm⟩
  | build z ps =>
   simp only [scalA,K.isLit,if_true] at hs
   have step:∀ T:LS,args.map T.get=args.map S.get→stepL Γ ⟨dst,.build z ps,args,none⟩ T=match (fillP z ps (args.map S.get)).map (fun cs=>(DV.st cs,T.ob)) with
     | some (v,ob)=>some ⟨putD T.sl dst v,ob⟩
     | none=>none:=by
    intro T hT
    rw [stepL_go]
    simp only [goL,eff,effP,hT,settleL_scal hs]
    rfl
   rw [step S rfl] at h
   cases hf:fillP z ps (args.map S.get) with
   | none=>rw [hf] at h; cases h
   | some cs =>
    rw [hf] at h
    simp only [Option.map_some,Option.some.injEq] at h
    refine ⟨.st cs,fun _=>rfl,h.symm,fun T ha=>?_⟩
    rw [step T ha.get.symm,hf]
    rfl
  | _=>cases h1
theorem mkV_dst {o:LOp} (h:mkV o=true):o.dst.isSome=true:=by
 simp only [mkV,Bool.and_eq_true] at h
 exact h.2
theorem mk_any {Γ:Fns} {i j:LOp} (hap:apartL j i=true) (hj:mkV j=true) {S S1 S2:LS} (dj:plainDst j S=true) (cj:scalA j.k (j.args.map S.get)=true) (sj:stepL Γ j S=some S1) (si:stepL Γ i S1=some S2) :
  ∃ T1,stepL Γ i S=some T1∧stepL Γ j T1=some S2:=by
 obtain ⟨p1,p2,p3⟩:=apartL_spec hap
 obtain ⟨v,hv,rfl,hmk⟩:=mkV_step hj cj sj
 have m1:=fun k=>ment_putD (k:=k) (d:=v) (e:=S.sl) (mkV_dst hj) (plainDst_spec dj)
 have ai:=ag_step (S:=S) (S1:=⟨putD S.sl j.dst v,S.ob⟩) rfl p1
 obtain ⟨d,e1,e2⟩:=stepL_any si
 have s1:=e2 S ⟨ai.1,rfl,fun k=>by
  show Env.mentions k S.sl=Env.mentions k (putD S.sl j.dst v)
  rw [m1,hv]; rfl⟩
 refine ⟨_,s1,?_⟩
 have aj:=ag_step (S:=S) (S1:=⟨putD S.sl i.dst d,S2.ob⟩) rfl p3
 rw [hmk _ aj.2]
 congr 1
 exact ls_eq (by rw [e1]; exact putD_comm p2 S.sl) rfl
theorem any_mk {Γ:Fns} {i j:LOp} (hap:apartL j i=true) (hi:mkV i=true) {S S1 S2:LS} (di:plainDst i S1=true) (ci:scalA i.k (i.args.map S1.get)=true) (sj:stepL Γ j S=some S1) (si:stepL Γ i S1=some S2) :
  ∃ T1,stepL Γ i S=some T1∧stepL Γ j T1=some S2:=by
 obtain ⟨p1,p2,p3⟩:=apartL_spec hap
 have p2':∀ d,i.dst=some d→j.dst≠some d:=fun d hi hj=>p2 d hj hi
 obtain ⟨v,hv,rfl,hmk⟩:=mkV_step hi ci si
 obtain ⟨d,e1,e2⟩:=stepL_any sj
 have ai:=ag_step e1 p1
 have s1:=hmk S ai.1
 have di':plainDst i S=true:=by
  rw [plainDst_congr (agD_step e1 p2).2]
  exact di
 have m1:=fun k=>ment_putD (k:=k) (d:=v) (e:=S.sl) (mkV_dst hi) (plainDst_spec di')
 have aj:=ag_step (S:=S) (S1:=⟨putD S.sl i.dst v,S.ob⟩) rfl p3
 refine ⟨_,s1,?_⟩
 rw [e2 ⟨putD S.sl i.dst v,S.ob⟩ ⟨aj.2,rfl,fun k=>by
  show Env.mentions k (putD S.sl i.dst v)=Env.mentions k S.sl
  rw [m1,hv]; rfl⟩]
 congr 1
 exact ls_eq (by rw [e1]; exact putD_comm p2 S.sl) rfl
theorem mix_strong {o:LOp} {S:LS} (h:okStep .mix o S=true):okStep .strong o S=true:=by
 simp only [okStep] at h ⊢
 cases hw:o.k.isW with
 | true=>rfl
 | false =>
  rw [hw] at h
  simpa using h
theorem mix_w {o:LOp} {S:LS} (hw:o.k.isW=true) (h:okStep .mix o S=true):plainDst o S=true∧scalA o.k (o.args.map S.get)=true:=by
 simp only [okStep,hw,if_true,Bool.and_eq_true] at h
 exact h
theorem strong_mix {o:LOp} {S T:LS} (ha:Ag o S T) (hd:AgD o S T) (h:okStep .mix o S=true) (hf:okStep .strong o T=true):okStep .mix o T=true:=by
 cases hw:o.k.isW with
 | true =>
  obtain ⟨h1,h2⟩:=mix_w hw h
  simp only [okStep,hw,if_true,Bool.and_eq_true]
  exact ⟨by rw [← plainDst_congr hd]; exact h1,by rw [← ha.get]; exact h2⟩
 | false =>
  simp only [okStep,hw,Bool.false_or] at hf
  simp only [okStep,hw]
  exact hf
theorem swap_mix {Γ:Fns} {i j:LOp} (hpi:plainO i=true) (hpj:plainO j=true) (hap:apartL j i=true) (hw:j.k.isW=true∧i.k.isW=true→mixPair j i=true) {S S1 S2:LS} (oj:okStep .mix j S=true) (sj:stepL Γ j S=some S1) (oi:okStep .mix i S1=true) (si:stepL Γ i S1=some S2) :
  ∃ T1,okStep .mix i S=true∧stepL Γ i S=some T1∧okStep .mix j T1=true∧stepL Γ j T1=some S2:=by
 obtain ⟨p1,p2,p3⟩:=apartL_spec hap
 have p2':∀ d,i.dst=some d→j.dst≠some d:=fun d hi hj=>p2 d hj hi
 obtain ⟨dj,ej,_⟩:=stepL_any sj
 have ai:=ag_step ej p1
 have bi:=agD_step ej p2
 have key:∃ T1,stepL Γ i S=some T1∧stepL Γ j T1=some S2∧okStep .strong i S=true∧okStep .strong j T1=true:=by
  by_cases hb:j.k.isW=true∧i.k.isW=true
  ·have hl:=hw hb
   obtain ⟨pj,cj⟩:=mix_w hb.1 oj
   obtain ⟨pi,ci⟩:=mix_w hb.2 oi
   obtain ⟨T1,s1,s2⟩:∃ T1,stepL Γ i S=some T1∧stepL Γ j T1=some S2:=by
    unfold mixPair at hl
    rw [Bool.or_eq_true,Bool.or_eq_true,Bool.or_eq_true,Bool.and_eq_true,Bool.and_eq_true,Bool.and_eq_true,Bool.or_eq_true] at hl
    rcases hl with ((hl | hl) | hl) | hl | hl
    ·exact lit_lit hap hl.1 hl.2 pj pi cj ci sj si
    ·exact lit_app hpi hap hl.1 hl.2 pj pi cj ci sj si
    ·exact app_lit hpj hap hl.1 hl.2 pj pi cj ci sj si
    ·exact mk_any hap hl pj cj sj si
    ·exact any_mk hap hl pi ci sj si
   exact ⟨T1,s1,s2,by simp [okStep,hb.2],by simp [okStep,hb.1]⟩
  ·obtain ⟨T1,q1,q2,q3,q4⟩:=swap_ok (.inr rfl) hap hb (fun _=>rfl) (mix_strong oj) sj (mix_strong oi) si
   exact ⟨T1,q2,q4,q1,q3⟩
 obtain ⟨T1,s1,s2,o1,o2⟩:=key
 obtain ⟨di,ei,_⟩:=stepL_any s1
 have aj:=ag_step ei p3
 have bj:=agD_step ei p2'
 exact ⟨T1,strong_mix ai.1 bi.1 oi o1,s1,strong_mix aj.2 bj.2 oj o2,s2⟩
/-- First the call,then the literal: the other way it is the same. -/
theorem call_litV {Γ:Fns} {i j:LOp} (hpj:plainO j=true) (hap:apartL j i=true) (hj:callO j=true) (hi:litV i=true) {S S1 S2:LS} (dj:plainDst j S=true) (di:plainDst i S1=true) (ci:scalA i.k (i.args.map S1.get)=true) (sj:stepL Γ j S=some S1) (si:stepL Γ i S1=some S2) :
  ∃ T1,stepL Γ i S=some T1∧stepL Γ j T1=some S2:=by
 obtain ⟨p1,p2,p3⟩:=apartL_spec hap
 have p2':∀ d,i.dst=some d→j.dst≠some d:=fun d hi hj=>p2 d hj hi
 obtain ⟨v,ob,rfl,hcall⟩:=callO_step hj sj
 obtain ⟨id,d,es,hf,⟨hd1,hd2⟩,rfl,hlit⟩:=litV_step hi ci si
 obtain ⟨f1,f2⟩:=frS_of hf
 have m1:=fun k=>ment_putD (k:=k) (d:=v) (e:=S.sl) (call_dst hj) (plainDst_spec dj)
 have f2':=f2
 simp only at f2'
 rw [m1,Bool.or_eq_false_iff] at f2'
 have fS:=frS_mk f1 f2'.2
 have ai:=ag_step (S:=S) (S1:=⟨putD S.sl j.dst v,ob⟩) rfl p1
 have s1:=hlit S ai.1 fS
 have di':plainDst i S=true:=by
  rw [plainDst_congr (agD_step (S:=S) (S1:=⟨putD S.sl j.dst v,ob⟩) rfl p2).2]
  exact di
 have aj:=ag_step (S:=S) (S1:=⟨putD S.sl i.dst d,putO S.ob id es⟩) rfl p3
 refine ⟨⟨putD S.sl i.dst d,putO S.ob id es⟩,s1,?_⟩
 rw [hcall id es ⟨putD S.sl i.dst d,putO S.ob id es⟩ aj.2 rfl (fun x hx=>by
  cases hm:x.mentions id with
  | false=>rfl
  | true=>have:=args_plain hpj hx hm; rw [f2'.2] at this; cases this) f2'.1 (fun k hk hfk=>by
  obtain ⟨g1,g2⟩:=frS_of hfk
  refine frS_mk g1 ?_
  show Env.mentions k (putD S.sl i.dst d)=false
  rw [ment_putD (litV_dst hi) (plainDst_spec di'),g2]
  cases hm:d.mentions k with
  | false=>rfl
  | true=>exact absurd (hd2 k hm) hk)]
 rw [putD_comm p2']
theorem litV_call {Γ:Fns} {i j:LOp} (hpi:plainO i=true) (hap:apartL j i=true) (hj:litV j=true) (hi:callO i=true) {S S1 S2:LS} (dj:plainDst j S=true) (di:plainDst i S1=true) (cj:scalA j.k (j.args.map S.get)=true) (sj:stepL Γ j S=some S1) (si:stepL Γ i S1=some S2) :
  ∃ T1,stepL Γ i S=some T1∧stepL Γ j T1=some S2:=by
 obtain ⟨p1,p2,p3⟩:=apartL_spec hap
 obtain ⟨id,d,es,hf,⟨hd1,hd2⟩,rfl,hlit⟩:=litV_step hj cj sj
 obtain ⟨f1,f2⟩:=frS_of hf
 have m1:=fun k=>ment_putD (k:=k) (d:=d) (e:=S.sl) (litV_dst hj) (plainDst_spec dj)
 have ai:=ag_step (S:=S) (S1:=⟨putD S.sl j.dst d,putO S.ob id es⟩) rfl p1
 have di':plainDst i S=true:=by
  rw [plainDst_congr (agD_step (S:=S) (S1:=⟨putD S.sl j.dst d,putO S.ob id es⟩) rfl p2).2]
  exact di
 obtain ⟨v,ob,s1,rfl,hv⟩:=callO_back hi si ai.2 rfl (fun x hx=>by
  cases hm:x.mentions id with
  | false=>rfl
  | true=>have:=args_plain hpi hx hm; rw [f2] at this; cases this) (by
  simp only [frS,m1,hd1]; simp) (fun k hk=>by
  obtain ⟨g1,g2⟩:=frS_of hk
  simp only at g2
  rw [m1,Bool.or_eq_false_iff] at g2
  exact frS_mk g1 g2.2)
 refine ⟨_,s1,?_⟩
 have aj:=ag_step (S:=S) (S1:=⟨putD S.sl i.dst v,ob⟩) rfl p3
 rw [hlit ⟨putD S.sl i.dst v,ob⟩ aj.2 (frS_mk f1 (by
  show Env.mentions id (putD S.sl i.dst v)=false
  rw [ment_putD (call_dst hi) (plainDst_spec di'),hv,f2]; rfl))]
 simp only
 rw [putD_comm p2]
theorem ps_foot {L:List Nat} {o:LOp} {S:LS} (h:okStep (.ps L) o S=true):okStep (.foot L) o S=true:=by
 simp only [okStep] at h ⊢
 split at h
 ·rename_i hw; rw [if_pos hw]; rw [Bool.and_eq_true] at h; exact h.1
 ·rename_i hw; rw [if_neg hw]; exact h
theorem foot_ps {L:List Nat} {o:LOp} {S T:LS} (ha:Ag o S T) (hd:AgD o S T) (h:okStep (.ps L) o S=true) (hf:okStep (.foot L) o T=true):okStep (.ps L) o T=true:=by
 simp only [okStep] at h hf ⊢
 split
 ·rename_i hw
  rw [if_pos hw] at h hf
  rw [Bool.and_eq_true,Bool.and_eq_true] at h ⊢
  exact ⟨hf,by rw [← plainDst_congr hd]; exact h.2.1,by rw [← ha.get]; exact h.2.2⟩
 ·rename_i hw; rw [if_neg hw] at hf; exact hf
theorem ps_dst {L:List Nat} {o:LOp} {S:LS} (hw:o.k.isW=true) (h:okStep (.ps L) o S=true):clears L o S=true∧plainDst o S=true∧scalA o.k (o.args.map S.get)=true:=by
 simp only [okStep,hw,if_true,Bool.and_eq_true] at h
 exact h
theorem swap_ps {Γ:Fns} {L:List Nat} {i j:LOp} (hpi:plainO i=true) (hpj:plainO j=true) (hap:apartL j i=true) (hw:j.k.isW=true∧i.k.isW=true→litPair j i=true∨psPair j i=true) {S S1 S2:LS} (oj:okStep (.ps L) j S=true) (sj:stepL Γ j S=some S1) (oi:okStep (.ps L) i S1=true) (si:stepL Γ i S1=some S2) :
  ∃ T1,okStep (.ps L) i S=true∧stepL Γ i S=some T1∧okStep (.ps L) j T1=true∧stepL Γ j T1=some S2:=by
 obtain ⟨p1,p2,p3⟩:=apartL_spec hap
 have p2':∀ d,i.dst=some d→j.dst≠some d:=fun d hi hj=>p2 d hj hi
 obtain ⟨dj,ej,_⟩:=stepL_any sj
 have ai:=ag_step ej p1
 have bi:=agD_step ej p2
 by_cases hb:j.k.isW=true∧i.k.isW=true
 ·have hl:=hw hb
  obtain ⟨cj,pj,aj0⟩:=ps_dst hb.1 oj
  obtain ⟨ci,pi,ai0⟩:=ps_dst hb.2 oi
  obtain ⟨T1,s1,s2⟩:∃ T1,stepL Γ i S=some T1∧stepL Γ j T1=some S2:=by
   unfold litPair psPair at hl
   rw [Bool.or_eq_true,Bool.and_eq_true,Bool.and_eq_true,Bool.or_eq_true,Bool.and_eq_true,Bool.and_eq_true] at hl
   rcases hl with (hl | hl) | (hl | hl)
   ·exact lit_call hpi hap hl.1 hl.2 pj pi sj si
   ·exact call_lit hpj hap hl.1 hl.2 pj pi sj si
   ·exact litV_call hpi hap hl.1 hl.2 pj pi aj0 sj si
   ·exact call_litV hpj hap hl.1 hl.2 pj pi ai0 sj si
  obtain ⟨di,ei,_⟩:=stepL_any s1
  have aj:=ag_step ei p3
  have bj:=agD_step ei p2'
  refine ⟨T1,?_,s1,?_,s2⟩
  ·simp only [okStep,hb.2,if_true,Bool.and_eq_true]
   exact ⟨by rw [← clears_congr ai.1]; exact ci,by rw [← plainDst_congr bi.1]; exact pi,by rw [← ai.1.get]; exact ai0⟩
  ·simp only [okStep,hb.1,if_true,Bool.and_eq_true]
   exact ⟨by rw [clears_congr aj.1]; exact cj,by rw [plainDst_congr bj.1]; exact pj,by rw [aj.1.get]; exact aj0⟩
 ·obtain ⟨T1,q1,q2,q3,q4⟩:=swap_foot hpi hpj hap hb (ps_foot oj) sj (ps_foot oi) si
  obtain ⟨di,ei,_⟩:=stepL_any q2
  have bj:=agD_step ei p2'
  have aj:=ag_step ei p3
  exact ⟨T1,foot_ps ai.1 bi.1 oi q1,q2,foot_ps aj.2 bj.2 oj q3,q4⟩
theorem swap_any {Γ:Fns} {q:Mode} {i j:LOp} (hx:Exch q j i) {S S1 S2:LS} (oj:okStep q j S=true) (sj:stepL Γ j S=some S1) (oi:okStep q i S1=true) (si:stepL Γ i S1=some S2) :
  ∃ T1,okStep q i S=true∧stepL Γ i S=some T1∧okStep q j T1=true∧stepL Γ j T1=some S2:=by
 obtain ⟨h1,h2,h3,h4,h5,h6,h7⟩:=hx
 have h2':q.isP=false→q≠.mix→q.isS=false→¬ (j.k.isW=true∧i.k.isW=true):=fun hn hm hs hb=>by
  rcases h2 hb with h | h | h
  ·rw [hn] at h; cases h.1
  ·exact hm h.1
  ·rw [hs] at h; cases h.1
 cases q with
 | ps L=>exact swap_ps h5 h4 h1 (fun hb=>by rcases h2 hb with h | h | h; exact .inl h.2; cases h.1; exact .inr h.2) oj sj oi si
 | pair L=>exact swap_pair h5 h4 h1 (fun hb=>by rcases h2 hb with h | h | h; exact h.2; cases h.1; cases h.1) oj sj oi si
 | pairf L1 L2 F=>exact swap_pairf h5 h4 h1 (fun hb=>by rcases h2 hb with h | h | h; exact h.2; cases h.1; cases h.1) oj sj oi si
 | mix=>exact swap_mix h5 h4 h1 (fun hb=>by rcases h2 hb with h | h | h; cases h.1; exact h.2; cases h.1) oj sj oi si
 | late L=>exact swap_late h5 h4 h1 (h2' rfl (by simp) rfl) (h6 rfl) (h7 rfl) oj sj oi si
 | weak=>exact swap_weak h5 h4 h1 (h2' rfl (by simp) rfl) oj sj oi si
 | foot L=>exact swap_foot h5 h4 h1 (h2' rfl (by simp) rfl) oj sj oi si
 | feed L1 L2 F=>exact swap_feed h5 h4 h1 (h2' rfl (by simp) rfl) oj sj oi si
 | strong=>exact swap_ok (by simp) h1 (h2' rfl (by simp) rfl) (fun _=>rfl) oj sj oi si
 | free=>exact swap_ok (by simp) h1 (h2' rfl (by simp) rfl) (fun h=>absurd rfl (h3 h)) oj sj oi si
/-- One that need not wait,done first. -/
theorem bubble {Γ:Fns} {q:Mode} {i:LOp} {l2:List LOp}:∀ {l1:List LOp} {S Sf:LS},(∀ j∈l1,Exch q j i) →
  runD Γ q (l1++i :: l2) S=some Sf→okStep q i S=true∧∃ T1,stepL Γ i S=some T1∧runD Γ q (l1++l2) T1=some Sf
 | [],S,Sf,_,h=>runD_cons.1 h
 | j :: l1,S,Sf,hc,h=>by
  obtain ⟨oj,S1,sj,hr⟩:=runD_cons.1 h
  obtain ⟨oi,S2,si,hr2⟩:=bubble (fun x hx=>hc x (List.mem_cons_of_mem _ hx)) hr
  obtain ⟨T1,q1,q2,q3,q4⟩:=swap_any (hc j (List.mem_cons_self ..)) oj sj oi si
  exact ⟨q1,T1,q2,runD_cons.2 ⟨q3,S2,q4,hr2⟩⟩
theorem runM_cons {Γ:Fns} {o:LOp} {os:List LOp} (hne:os≠[]) {S Sf:LS}:runM Γ (o :: os) S=some Sf↔okStep .mix o S=true∧∃ S1,stepL Γ o S=some S1∧runM Γ os S1=some Sf:=by
 cases os with
 | nil=>exact absurd rfl hne
 | cons p os =>
  simp only [runM]
  constructor
  ·intro h
   split at h
   ·rename_i ho
    split at h
    ·rename_i S1 hs
     exact ⟨ho,S1,hs,h⟩
    ·cases h
   ·cases h
  ·rintro ⟨ho,S1,hs,h⟩
   rw [if_pos ho,hs]
   exact h
theorem bubbleM {Γ:Fns} {i:LOp} {l2:List LOp} (hne:l2≠[]):∀ {l1:List LOp} {S Sf:LS},(∀ j∈l1,Exch .mix j i) →
  runM Γ (l1++i :: l2) S=some Sf→okStep .mix i S=true∧∃ T1,stepL Γ i S=some T1∧runM Γ (l1++l2) T1=some Sf
 | [],S,Sf,_,h=>(runM_cons hne).1 h
 | j :: l1,S,Sf,hc,h=>by
  have n1:l1++i :: l2≠[]:=by simp
  have n2:l1++l2≠[]:=by simp [hne]
  obtain ⟨oj,S1,sj,hr⟩:=(runM_cons n1).1 h
  obtain ⟨oi,S2,si,hr2⟩:=bubbleM hne (fun x hx=>hc x (List.mem_cons_of_mem _ hx)) hr
  obtain ⟨T1,q1,q2,q3,q4⟩:=swap_any (hc j (List.mem_cons_self ..)) oj sj oi si
  exact ⟨q1,T1,q2,(runM_cons n2).2 ⟨q3,S2,q4,hr2⟩⟩
/-- One that need not wait,done first; what is done last of all waits for all. -/
theorem bubbleM' {Γ:Fns} {i:LOp} {l1 l2:List LOp} (hl:l2=[]→l1=[]) {S Sf:LS} (hc:∀ j∈l1,Exch .mix j i) (h:runM Γ (l1++i :: l2) S=some Sf):∃ T1,stepL Γ i S=some T1∧runM Γ (l1++l2) T1=some Sf:=by
 cases l2 with
 | nil =>
  rw [hl rfl] at h ⊢
  exact ⟨Sf,h,rfl⟩
 | cons p os=>exact (bubbleM (by simp) hc h).2
end Go.Lg

namespace Go.Lg
open Go.RowKit
variable [GL]
set_option linter.unusedVariables false

instance:Inhabited LOp:=⟨⟨none,.mv,[],none⟩⟩

theorem St.drew {c:Cx} {N:Nat} {S:LS} {a:Act} {w:World} (h:St c N S a w):St c N S a { w with drawn:=w.drawn+1 }:=by
 obtain ⟨O,hm,hsr,h1,h2⟩:=h
 have ht:Tr c.ok0 c.B (fun _=>False) w O { w with drawn:=w.drawn+1 } O:=⟨Nat.le_refl _,fun _ _ _=>rfl,fun _ h _=>h,fun _ _ _ h=>.inl h,fun _ p _ h=>⟨p,h,.inl rfl⟩⟩
 exact ⟨O,⟨hm.os,hm.tape,hm.output,hm.size,hm.frame,hm.dom,fun k p es hk he=>(hm.obj k p es hk he).tr ht (fun _ _=>rfl),hm.inj,hm.base,hm.sz,hm.refs,hm.glob⟩,fun t=>(hsr t).tr ht (fun _ h=>h.elim),h1,h2⟩

def reach (ops:Array Oper):Nat→Nat→Nat→Bool
 | 0,_,_=>false
 | f+1,i,j=>match ops[i]? with
  | some o=>o.after.any fun e=>Region.binds .any e && (e.on == j || reach ops f e.on j)
  | none=>false
def lexOk (ops:Array Oper):Bool:=(List.range ops.size).all fun i=>match ops[i]? with
 | some o=>o.after.all fun e=>!Region.binds .any e || decide (e.on < i)
 | none=>true
def pairOk (p b n s:Bool) (x y:LOp):Bool:=apartL x y && (!(x.k.isW && y.k.isW) || ((litPair x y && (p || s)) || ((b && mixPair x y) || (s && psPair x y)))) && plainO x && plainO y && ((!x.k.isStore || y.k.shape) || n) && ((!y.k.isStore || x.k.shape) || n)
/-- What is last waits for all. -/
def lastB (ops:Array Oper):Bool:=(List.range (ops.size - 1)).all fun j=>reach ops ops.size (ops.size - 1) j
def drawB (ops:Array Oper) (ls:List LOp):Bool:=lexOk ops && ((List.range ops.size).all fun i=>(List.range i).all fun j=>pairOk (needP ls) (!needP ls && needM ls) (needN ls) (!needP ls && (!needM ls && needB ls)) (ls.getD j default) (ls.getD i default) || reach ops ops.size i j) && (!(!needP ls && needM ls) || lastB ops)

def rem (ops:Array Oper) (listed:Array Bool):List Nat:=(List.range ops.size).filter fun i=>!listed.getD i true
def Closed (ops:Array Oper) (listed:Array Bool):Prop:=∀ i o,ops[i]?=some o→listed.getD i true=true→∀ e∈o.after,Region.binds .any e=true→listed.getD e.on false=true

theorem getD_tf {listed:Array Bool} {i:Nat} (h:listed.getD i false=true):listed.getD i true=true:=by
 rw [Array.getD_eq_getD_getElem?] at h ⊢
 cases hx:listed[i]? <;> simp_all
theorem getD_ft {listed:Array Bool} {i:Nat} (hi:i < listed.size) (h:listed.getD i true=true):listed.getD i false=true:=by
 rw [Array.getD_eq_getD_getElem?] at h ⊢
 simp_all

theorem reach_listed {ops:Array Oper} {listed:Array Bool} (hc:Closed ops listed):∀ {f i j:Nat},(∀ o,ops[i]?=some o→∀ e∈o.after,Region.binds .any e=true→listed.getD e.on false=true)→reach ops f i j=true→listed.getD j true=true
 | 0,_,_,_,h=>by cases h
 | f+1,i,j,hi,h=>by
  simp only [reach] at h
  split at h
  ·rename_i o ho
   obtain ⟨e,he,hb⟩:=Array.any_eq_true'.1 h
   simp only [Bool.and_eq_true,Bool.or_eq_true,beq_iff_eq] at hb
   have hl:=hi o ho e he hb.1
   rcases hb.2 with h1 | h1
   ·rw [← h1]; exact getD_tf hl
   ·exact reach_listed hc (fun o' ho'=>hc e.on o' ho' (getD_tf hl)) h1
  ·cases h

theorem rem_mem {ops:Array Oper} {listed:Array Bool} {i:Nat}:i∈rem ops listed↔i < ops.size∧listed.getD i true=false:=by
 unfold rem
 rw [List.mem_filter,List.mem_range]
 simp
theorem rem_sorted (ops:Array Oper) (listed:Array Bool):(rem ops listed).Pairwise (· < ·):=List.Pairwise.filter _ List.pairwise_lt_range
theorem rem_set {ops:Array Oper} {listed:Array Bool} (hs:listed.size=ops.size) {i:Nat} {r1 r2:List Nat} (h:rem ops listed=r1++i :: r2):rem ops (listed.setIfInBounds i true)=r1++r2:=by
 have hsort:=rem_sorted ops listed
 have hmem:i∈rem ops listed:=by rw [h]; simp
 have hi:=rem_mem.1 hmem
 have e:rem ops (listed.setIfInBounds i true)=(rem ops listed).filter fun j=>!(j == i):=by
  unfold rem
  rw [List.filter_filter]
  apply List.filter_congr
  intro j hj
  by_cases hji:j=i
  ·subst hji
   have:(listed.setIfInBounds j true).getD j true=true:=by
    rw [Array.getD_eq_getD_getElem?]; simp [Array.getElem?_setIfInBounds]
    split <;> rfl
   simp [this]
  ·rw [getD_set_ne true (Ne.symm hji)]
   simp [hji]
 rw [e,h]
 rw [h,List.pairwise_append] at hsort
 obtain ⟨_,h2,h3⟩:=hsort
 rw [List.pairwise_cons] at h2
 rw [List.filter_append,List.filter_cons]
 simp only [BEq.rfl,Bool.not_true,Bool.false_eq_true,if_false]
 congr 1
 ·exact List.filter_eq_self.2 fun j hj=>by have:=h3 j hj i (List.mem_cons_self ..); simp; omega
 ·exact List.filter_eq_self.2 fun j hj=>by have:=h2.1 j hj; simp; omega

theorem viewOps_get {P:Program} {ops:Array Oper}:∀ {os:List Oper} {ls:List LOp},viewOps P ops os=some ls→ls.length=os.length∧∀ (i:Nat) (o:Oper),os[i]?=some o→∃ l,ls[i]?=some l∧viewOp P ops o=some l
 | [],ls,h=>by simp only [viewOps,Option.some.injEq] at h; subst h; exact ⟨rfl,by simp⟩
 | o :: os,ls,h=>by
  simp only [viewOps] at h
  split at h
  ·rename_i l hl
   split at h
   ·rename_i ls' hls
    injection h with h
    subst h
    obtain ⟨h1,h2⟩:=viewOps_get hls
    refine ⟨by simp [h1],fun i x hx=>?_⟩
    cases i with
    | zero=>simp only [List.getElem?_cons_zero,Option.some.injEq] at hx; subst hx; exact ⟨l,rfl,hl⟩
    | succ i=>simp only [List.getElem?_cons_succ] at hx ⊢; exact h2 i x hx
   ·cases h
  ·cases h

section
variable {P:Program} {Γ:Fns} {c:Cx} {N:Nat}

theorem any_ok (hΓ:CallOk P Γ) (hF:∀ r∈c.refs,6≤r.1 % 8) {ops:Array Oper} {ls:List LOp} (hv:viewOps P ops ops.toList=some ls) (hN:∀ o∈ops.toList,Opx o.dst N=true) (hB:drawB ops ls=true) {q:Mode} (hq:ls.any (·.k.isW)=true→q≠.free) (hP:needP ls=true→q.isP=true) (hM:(!needP ls && needM ls)=true→q=.mix) (hS:(!needP ls && (!needM ls && needB ls))=true→q.isS=true∧q.isP=true) (hL:q.isL=true→needN ls=false) {RR:List LOp→LS→Option LS} (hnil:∀ S S',RR [] S=some S'→S=S') (hbub:∀ {i:LOp} {l1 l2:List LOp} {S Sf:LS},((!needP ls && needM ls)=true→l2=[]→l1=[])→(∀ j∈l1,Exch q j i)→RR (l1++i :: l2) S=some Sf→∃ T1,stepL Γ i S=some T1∧RR (l1++l2) T1=some Sf) {Sf:LS} {Q:Exit→Act→World→Prop} (hQ:∀ a' w',St c N Sf a' w'→Q .normal a' w') {r:Option Nat} {m:Nat} :
  ∀ (fuel:Nat) (listed:Array Bool) (S:LS) (a:Act) (w:World),listed.size=ops.size→Closed ops listed→(rem ops listed).length≤fuel→St c N S a w →
   RR ((rem ops listed).map fun i=>ls.getD i default) S=some Sf→wpAnyIn (Wd r) m P .any ops Q fuel listed a w:=by
 obtain ⟨hlen,hget⟩:=viewOps_get hv
 simp only [drawB,Bool.and_eq_true] at hB
 obtain ⟨⟨hlex,hpair⟩,hlast⟩:=hB
 have fin:∀ {listed:Array Bool} {S:LS} {a:Act} {w:World},rem ops listed=[]→St c N S a w→RR ((rem ops listed).map fun i=>ls.getD i default) S=some Sf→Q .normal a w:=by
  intro listed S a w h0 hs hr
  rw [h0] at hr
  have hr:=hnil _ _ hr
  subst hr
  exact hQ _ _ hs
 intro fuel
 induction fuel with
 | zero =>
  intro listed S a w hsz hc hl hs hr
  have h0:rem ops listed=[]:=List.eq_nil_of_length_eq_zero (by omega)
  refine ⟨?_,fin h0 hs hr⟩
  cases hrd:Region.ready .any ops listed with
  | nil=>rfl
  | cons i r =>
   exfalso
   have hi:i∈Region.ready .any ops listed:=by rw [hrd]; simp
   obtain ⟨h1,o,h2,_⟩:=mem_ready.1 hi
   have:i∈rem ops listed:=rem_mem.2 ⟨(Array.getElem?_eq_some_iff.1 h2).1,h1⟩
   rw [h0] at this
   cases this
 | succ fuel ih =>
  intro listed S a w hsz hc hl hs hr
  refine ⟨fun hrd=>?_,fun i hi=>?_⟩
  ·cases h0:rem ops listed with
   | nil=>exact fin h0 hs hr
   | cons i r =>
    exfalso
    have him:i∈rem ops listed:=by rw [h0]; simp
    obtain ⟨hi,hu⟩:=rem_mem.1 him
    have hsort:=rem_sorted ops listed
    rw [h0,List.pairwise_cons] at hsort
    have:i∈Region.ready .any ops listed:=by
     refine mem_ready.2 ⟨hu,ops[i],by simp [hi],fun e he hb=>?_⟩
     have hlt:e.on < i:=by
      have h1:=List.all_eq_true.1 hlex i (List.mem_range.2 hi)
      simp only [Array.getElem?_eq_getElem hi] at h1
      have h2:=Array.all_eq_true_iff_forall_mem.1 h1 e he
      simp only [hb,Bool.not_true,Bool.false_or,decide_eq_true_eq] at h2
      exact h2
     have hel:listed.getD e.on true=true:=by
      cases hx:listed.getD e.on true with
      | true=>rfl
      | false =>
       have hm:e.on∈rem ops listed:=rem_mem.2 ⟨by omega,hx⟩
       rw [h0] at hm
       rcases List.mem_cons.1 hm with h1 | h1
       ·omega
       ·have:=hsort.1 _ h1; omega
     exact getD_ft (by omega) hel
    rw [hrd] at this
    cases this
  ·obtain ⟨hu,o,ho,hafter⟩:=mem_ready.1 hi
   have hil:i < ops.size:=(Array.getElem?_eq_some_iff.1 ho).1
   obtain ⟨l,hl1,hl2⟩:=hget i o (by simpa using ho)
   have hfi:ls.getD i default=l:=by rw [List.getD_eq_getElem?_getD,hl1]; rfl
   obtain ⟨r1,r2,hrem⟩:=List.append_of_mem (rem_mem.2 ⟨hil,hu⟩)
   have hsort:=rem_sorted ops listed
   rw [hrem,List.pairwise_append] at hsort
   have hset:=rem_set hsz hrem
   have hmemW:∀ j,j < ops.size→(ls.getD j default).k.isW=true→ls.any (·.k.isW)=true:=by
    intro j hj hw
    have hjl:j < ls.length:=by rw [hlen]; simpa using hj
    rw [List.getD_eq_getElem?_getD,List.getElem?_eq_getElem hjl] at hw
    exact List.any_eq_true.2 ⟨_,List.getElem_mem hjl,hw⟩
   have hcomp:∀ x∈r1.map fun i=>ls.getD i default,Exch q x l:=by
    intro x hx
    obtain ⟨j,hj,rfl⟩:=List.mem_map.1 hx
    have hjr:j∈rem ops listed:=by rw [hrem]; exact List.mem_append_left _ hj
    obtain ⟨hjs,hju⟩:=rem_mem.1 hjr
    have hji:j < i:=hsort.2.2 j hj i (List.mem_cons_self ..)
    have h1:=List.all_eq_true.1 (List.all_eq_true.1 hpair i (List.mem_range.2 hil)) j (List.mem_range.2 hji)
    rw [Bool.or_eq_true] at h1
    rcases h1 with h1 | h1
    ·simp only [pairOk,Bool.and_eq_true,Bool.or_eq_true,Bool.not_eq_true',hfi] at h1
     obtain ⟨⟨⟨⟨⟨h1,h2⟩,h3⟩,h4⟩,h5⟩,h6⟩:=h1
     refine ⟨h1,fun h=>?_,fun h=>?_,h3,h4,(fun hl h=>by
      rcases h5 with (h5 | h5) | h5
      ·rw [h] at h5; cases h5
      ·exact h5
      ·rw [hL hl] at h5; cases h5),(fun hl h=>by
      rcases h6 with (h6 | h6) | h6
      ·rw [h] at h6; cases h6
      ·exact h6
      ·rw [hL hl] at h6; cases h6)⟩
     ·rw [h.1,h.2] at h2
      rcases h2 with h2 | h2 | h2 | h2
      ·cases h2
      ·rcases h2.2 with h2' | h2'
       ·exact .inl ⟨hP h2',h2.1⟩
       ·exact .inl ⟨(hS (by rw [h2'.1,h2'.2.1,h2'.2.2]; rfl)).2,h2.1⟩
      ·exact .inr (.inl ⟨hM (by rw [h2.1.1,h2.1.2]; rfl),h2.2⟩)
      ·exact .inr (.inr ⟨(hS (by rw [h2.1.1,h2.1.2.1,h2.1.2.2]; rfl)).1,h2.2⟩)
     ·rcases h with h | h
      ·exact hq (hmemW j hjs h)
      ·exact hq (hmemW i hil (by rw [hfi]; exact h))
    ·exfalso
     have:=reach_listed hc (fun o' ho'=>by rw [ho] at ho'; injection ho' with ho'; subst ho'; exact hafter) h1
     rw [hju] at this
     cases this
   rw [hrem,List.map_append,List.map_cons,hfi] at hr
   have hfin:(!needP ls && needM ls)=true→(r2.map fun i=>ls.getD i default)=[]→(r1.map fun i=>ls.getD i default)=[]:=by
    intro hm h2
    have h2:r2=[]:=List.map_eq_nil_iff.1 h2
    subst h2
    rw [hm] at hlast
    simp only [Bool.not_true,Bool.false_or,lastB,List.all_eq_true,List.mem_range] at hlast
    have hnl:∀ j,j < ops.size→listed.getD j true=false→j∈r1∨j=i:=fun j hj hju=>by
     have:j∈rem ops listed:=rem_mem.2 ⟨hj,hju⟩
     rw [hrem] at this
     rcases List.mem_append.1 this with h | h
     ·exact .inl h
     ·exact .inr (List.mem_singleton.1 h)
    by_cases hil':i=ops.size - 1
    ·cases hr1:r1 with
     | nil=>rfl
     | cons j r =>
      exfalso
      have hj:j∈r1:=by rw [hr1]; exact List.mem_cons_self ..
      have hjr:j∈rem ops listed:=by rw [hrem]; exact List.mem_append_left _ hj
      obtain ⟨hjs,hju⟩:=rem_mem.1 hjr
      have hji:j < i:=hsort.2.2 j hj i (List.mem_cons_self ..)
      have hrc:=hlast j (by omega)
      rw [← hil'] at hrc
      have:=reach_listed hc (fun o' ho'=>by rw [ho] at ho'; injection ho' with ho'; subst ho'; exact hafter) hrc
      rw [hju] at this
      cases this
    ·exfalso
     -- the last one is listed: then all are
     have hls:listed.getD (ops.size - 1) true=true:=by
      cases hx:listed.getD (ops.size - 1) true with
      | true=>rfl
      | false =>
       rcases hnl (ops.size - 1) (by omega) hx with h | h
       ·have:=hsort.2.2 _ h i (List.mem_cons_self ..); omega
       ·exact absurd h.symm hil'
     have hrc:=hlast i (by omega)
     have:=reach_listed hc (fun o' ho' e he hb=>hc (ops.size - 1) o' ho' hls e he hb) hrc
     rw [hu] at this
     cases this
   obtain ⟨T1,hst,hrest⟩:=hbub hfin hcomp hr
   have hlen2:(rem ops (listed.setIfInBounds i true)).length≤fuel:=by
    rw [hset]
    rw [hrem] at hl
    simp at hl ⊢
    omega
   have hc':Closed ops (listed.setIfInBounds i true):=by
    intro j oj hoj hj e he hb
    by_cases hji:j=i
    ·subst hji
     rw [ho] at hoj
     injection hoj with hoj
     subst hoj
     exact getD_set_true (hafter e he hb)
    ·rw [getD_set_ne true (Ne.symm hji)] at hj
     exact getD_set_true (hc j oj hoj hj e he hb)
   have hok:=stepL_ok hΓ hF hl2 (hN o (by
    have:=Array.mem_of_getElem? ho
    simpa using this)) hs hst (KK:=wpAnyIn (Wd r) m P .any ops Q fuel (listed.setIfInBounds i true)) (Q:=Q) (r:=r) (m:=m) (fun v w' hs'=>ih _ T1 _ w' (by simp [hsz]) hc' hlen2 hs' (by rw [hset,List.map_append]; exact hrest))
   unfold wpOpIn
   rw [ho]
   simp only
   split
   ·rename_i hw; rw [if_pos hw] at hok; exact hok
   ·rename_i hw; rw [if_neg hw] at hok; exact ⟨fun _ _=>trivial,hok⟩

theorem draw_region (hm:P.follows .mixedOrders=true) (hΓ:CallOk P Γ) (hF:∀ r∈c.refs,6≤r.1 % 8) {id:Nat} {ops:Array Oper} {ls:List LOp} (hv:viewOps P ops ops.toList=some ls) (hN:∀ o∈ops.toList,Opx o.dst N=true) (hB:drawB ops ls=true)
  {S Sf:LS} {a:Act} {w:World} {Q:Exit→Act→World→Prop} (hs:St c N S a w) (hr:runR Γ true ls S=some Sf) (hQ:∀ a' w',St c N Sf a' w'→Q .normal a' w') {r:Option Nat} {m:Nat}:(Code.region id ops true).wpIn (Wd r) m P Q a w:=by
 obtain ⟨hlen,hget⟩:=viewOps_get hv
 obtain ⟨q,RR,hq,hP,hM,hS,hL,h0,hbub,hr⟩:∃ (q:Mode) (RR:List LOp→LS→Option LS),(ls.any (·.k.isW)=true→q≠.free)∧(needP ls=true→q.isP=true)∧((!needP ls && needM ls)=true→q=.mix)∧((!needP ls && (!needM ls && needB ls))=true→q.isS=true∧q.isP=true)∧(q.isL=true→needN ls=false)∧(∀ S S',RR [] S=some S'→S=S') ∧
   (∀ {i:LOp} {l1 l2:List LOp} {S Sf:LS},((!needP ls && needM ls)=true→l2=[]→l1=[])→(∀ j∈l1,Exch q j i)→RR (l1++i :: l2) S=some Sf→∃ T1,stepL Γ i S=some T1∧RR (l1++l2) T1=some Sf)∧RR ls S=some Sf:=by
  rcases runR_ex hr with ⟨q,hq,h3⟩ | ⟨hn,hm',h3⟩
  ·refine ⟨q,runD Γ q,fun h=>?_,fun h=>?_,fun h=>?_,fun h=>?_,fun h=>?_,fun S S' h=>by simpa [runD] using h,fun _ hc h=>(bubble hc h).2,h3⟩
   ·rcases hq with ⟨hn,hq⟩ | ⟨hn,hm',hq⟩
    ·rcases hq with rfl | rfl | rfl | rfl | rfl | rfl <;> simp
    ·rcases hq with ⟨_,rfl⟩ | ⟨_,hq⟩
     ·simp
     rcases hq with rfl | rfl | rfl | rfl | rfl | rfl | rfl | rfl | rfl
     ·unfold modeOf
      rw [if_pos h]; simp
     all_goals first
      | simp; done
      | (unfold lateM; split <;> simp)
   ·rcases hq with ⟨hn,hq⟩ | ⟨hn,_,hq⟩
    ·rcases hq with rfl | rfl | rfl | rfl | rfl | rfl <;> rfl
    ·rw [hn] at h; cases h
   ·rw [Bool.and_eq_true,Bool.not_eq_true'] at h
    rcases hq with ⟨hn,hq⟩ | ⟨hn,hm',hq⟩
    ·rw [hn] at h; cases h.1
    ·rw [hm'] at h; cases h.2
   ·rw [Bool.and_eq_true,Bool.and_eq_true,Bool.not_eq_true',Bool.not_eq_true'] at h
    rcases hq with ⟨hn,hq⟩ | ⟨hn,hm',hq⟩
    ·rw [hn] at h; cases h.1
    ·rcases hq with ⟨_,rfl⟩ | ⟨hb,_⟩
     ·exact ⟨rfl,rfl⟩
     ·rw [hb] at h; cases h.2.2
   ·cases hN':needN ls with
    | false=>rfl
    | true =>
     exfalso
     rcases hq with ⟨hn,hq⟩ | ⟨hn,hm',hq⟩
     ·rcases hq with rfl | rfl | rfl | rfl | rfl | rfl <;> cases h
     ·rcases hq with ⟨_,rfl⟩ | ⟨_,hq⟩
      ·cases h
      rcases hq with rfl | rfl | rfl | rfl | rfl | rfl | rfl | rfl | rfl
      ·unfold modeOf at h
       split at h <;> cases h
      all_goals first
       | (cases h; done)
       | (unfold lateM at h; rw [if_pos hN'] at h; cases h)
  ·exact ⟨.mix,runM Γ,fun _=>by simp,(fun h=>by rw [hn] at h; cases h),fun _=>rfl,(fun h=>by rw [hm'] at h; simp at h),(fun h=>by cases h),fun S S' h=>by simpa [runM] using h,fun hl hc h=>bubbleM' (hl (by rw [hn,hm']; rfl)) hc h,h3⟩
 have hrem:rem ops (Array.replicate ops.size false)=List.range ops.size:=by
  unfold rem
  refine List.filter_eq_self.2 fun i hi=>?_
  have hi:=List.mem_range.1 hi
  simp [Array.getD_eq_getD_getElem?,hi]
 refine wpIn_region_any hm (any_ok hΓ hF hv hN hB hq hP hM hS hL h0 hbub hQ ops.size _ S a _ (by simp) (fun i o ho hl=>?_) (by rw [hrem]; simp) hs.drew ?_)
 ·have hi:=(Array.getElem?_eq_some_iff.1 ho).1
  simp [Array.getD_eq_getD_getElem?,hi] at hl
 ·rw [hrem]
  have:(List.range ops.size).map (fun i=>ls.getD i default)=ls:=by
   apply List.ext_getElem?
   intro i
   rw [List.getElem?_map]
   by_cases hi:i < ops.size
   ·have hil:i < ls.length:=by rw [hlen]; simpa using hi
    rw [List.getElem?_range hi,Option.map_some,List.getD_eq_getElem?_getD,List.getElem?_eq_getElem hil]
    rfl
   ·rw [List.getElem?_eq_none (by simpa using hi),List.getElem?_eq_none (by rw [hlen]; simpa using hi)]
    rfl
  rw [this]
  exact hr
end
end Go.Lg

namespace Go.Lg
open Go.RowKit
variable [GL]
set_option linter.unusedVariables false

/-- Which regions that draw are served. -/
def dcOf (P:Program) (ops:Array Oper):Bool:=match viewOps P ops ops.toList with
 | some ls=>drawB ops ls
 | none=>false
theorem draw_ok {P:Program} (hm:P.follows .mixedOrders=true):∀ Γ,FnSound P Γ→DrawOk P Γ (dcOf P):=by
 intro Γ hS r m c N id ops ls S S1 a w Q hd hF hv hN hs hr hQ
 unfold dcOf at hd
 rw [hv] at hd
 exact draw_region hm (callOk_of hS) hF hv hN hd hs hr hQ
end Go.Lg

namespace Go.Lg
variable [GL]
set_option linter.unusedSimpArgs false
set_option linter.unusedVariables false
open Go.RowKit Go.ChangeShapes Go.WideShapes Go.Deep
set_option linter.unusedVariables false

def e2 (t:Int×Int):DV:=.st [.i t.1,.i t.2]
def rs2 (xs:List (Int×Int)):DV:=.sl 0 (xs.map e2)
def e3 (t:Int×Int×Int):DV:=.st [.i t.1,.i t.2.1,.i t.2.2]
/-- A slice of structs of numbers that came in from outside. -/
theorem cr_rows {w:World} {B:Nat} {ok:OkT} (hB:B=w.heap.size) (hok:∀ b,ok b) (nf:Nat) (hnf:0 < nf) {x:Addr} {len cap:Nat} (hl:len≤cap) (hm:cap≤maxLen)
  (hc:∀ i,i < len→∀ j,j < nf→∃ n,w.cell? (x.add (i * nf+j))=some (.int .i64 n)) :
  ∃ f:Nat→Nat→Int,CR w B ok (.sl 0 ((List.range len).map fun i=>.st ((List.range nf).map fun j=>.i (f i j)))) (.slice (some x) len cap):=by
 classical
 have hf:∃ f:Nat→Nat→Int,∀ i,i < len→∀ j,j < nf→w.cell? (x.add (i * nf+j))=some (.int .i64 (f i j)):=by
  refine ⟨fun i j=>if h:∃ n,w.cell? (x.add (i * nf+j))=some (.int .i64 n) then h.choose else 0,fun i hi j hj=>?_⟩
  have h:=hc i hi j hj
  simp only [dif_pos h]
  exact h.choose_spec
 obtain ⟨f,hf⟩:=hf
 refine ⟨f,?_⟩
 by_cases h0:0 < len
 ·have hlt:x.block < w.heap.size:=by
   have h1:=hf 0 h0 0 hnf
   unfold World.cell? at h1
   rw [block_add] at h1
   by_cases hb:x.block < w.heap.size
   ·exact hb
   ·rw [Array.getElem?_eq_none (by omega)] at h1
    cases h1
  have hflat:∀ m,flat ((List.range m).map fun i=>DV.st ((List.range nf).map fun j=>.i (f i j)))=(List.range (m * nf)).map fun q=>DV.i (f (q / nf) (q % nf)):=by
   intro m
   induction m with
   | zero=>simp [flat]
   | succ m ih =>
    have ha:∀ a b:List DV,flat (a++b)=flat a++flat b:=fun a b=>by simp [flat]
    rw [List.range_succ,List.map_append,ha,ih,Nat.succ_mul,List.range_add,List.map_append]
    congr 1
    simp only [List.map_cons,List.map_nil,flat,List.flatMap_cons,List.flatMap_nil,List.append_nil,DV.cells,List.map_map]
    apply List.map_congr_left
    intro j hj
    rw [List.mem_range] at hj
    simp only [Function.comp]
    rw [Nat.mul_comm m nf,Nat.mul_add_div hnf,Nat.mul_add_mod,Nat.div_eq_of_lt hj,Nat.mod_eq_of_lt hj,Nat.add_zero]
  have hq:∀ q,q < len * nf→w.cell? (x.add q)=some (.int .i64 (f (q / nf) (q % nf))):=by
   intro q hq
   have h1:=hf (q / nf) (by rw [Nat.div_lt_iff_lt_mul hnf]; exact hq) (q % nf) (Nat.mod_lt _ hnf)
   rwa [Nat.mul_comm,Nat.div_add_mod] at h1
  refine .sl 0 _ x len cap nf ((List.range (len * nf)).map fun q=>.int .i64 (f (q / nf) (q % nf))) (by simp) h0 hl hm (fun e he=>?_) (hok _) hlt (fun _=>by omega) (fun h=>by omega) (fun h=>by cases h) (by rw [hflat]; simp) (fun j u hu=>?_) (fun j c u hc hu=>?_)
  ·obtain ⟨i,_,rfl⟩:=List.mem_map.1 he
   simp [DV.cells]
  ·rw [List.getElem?_map,Option.map_eq_some_iff] at hu
   obtain ⟨q,hq',rfl⟩:=hu
   obtain ⟨h1,h2⟩:=List.getElem?_eq_some_iff.1 hq'
   simp only [List.length_range] at h1
   rw [List.getElem_range] at h2
   subst h2
   exact hq j h1
  ·rw [hflat,List.getElem?_map,Option.map_eq_some_iff] at hc
   rw [List.getElem?_map,Option.map_eq_some_iff] at hu
   obtain ⟨q,h1,rfl⟩:=hc
   obtain ⟨q',h2,rfl⟩:=hu
   rw [h1] at h2
   injection h2 with h2
   subst h2
   exact .i _
 ·have:len=0:=by omega
  subst this
  exact .sl0 _ _ _ hm

section
variable {H:Type} {enc:TypeId×Value→H} {P:Program} {w:World} {base b0:Nat} {r:Reach} {spare:Nat→Bool} {held:Bool}
/-- What the guide's page on structs says of a slice of structs of one-cell fields,over the kit's own reading of slices. -/
theorem open_rows {t e:TypeId} {fs:Array Field} {v:Value} {d:DataW H} {p:List MemPlace} (ht:P.underlying t=some (.slice e)) (he:P.underlying e=some (.struct fs))
  (hone:oneCellFields P fs=true) (hC:P.cellsOf e=fs.size) (hint:∀ (j:Nat) (f:Field),fs[j]?=some f→P.underlying f.type=some (.int .i64)) (hval:Value.okWide P w r b0 t v) (h:DataW.Trod enc P w base spare held t v d p) :
  (v=.slice none 0 0)∨∃ a len cap,v=.slice (some a) len cap∧len≤cap∧cap≤maxLen∧∀ i,i < len→∀ j,j < fs.size→∃ n,w.cell? (a.add (i * fs.size+j))=some (.int .i64 n):=by
 obtain ⟨A,len0,cap0,rfl⟩:=okWide_slice ht hval
 obtain ⟨fuel,h⟩:=h
 rcases open_slice ht h with ⟨h0,_⟩ | ⟨a,len,cap,m,n,D,Pl,hcs,hb,hl,hm,hmm,hx,hi⟩
 ·left
  simpa [Value.cells] using h0
 ·right
  simp only [Value.cells,List.cons.injEq,and_true] at hcs
  refine ⟨a,len,cap,hcs,hl,hm,fun i him j hj=>?_⟩
  obtain ⟨cs',hc,ht'⟩:=hi i (by rw [hmm]; split <;> omega)
  rw [hC] at hc
  obtain ⟨ys,n',hn',hy,hlen,hyl,hf⟩:=DataW.trod_struct he ht'
  obtain ⟨_,hcl,hat⟩:=World.cells?_some hc
  have hj':fs[j]?=some fs[j]:=Array.getElem?_eq_getElem hj
  obtain ⟨ho,hk⟩:=hone_of hone j _ hj'
  have hcell:=hat j hj
  have hv:cs'[j]?=some (cs'[j]'(by omega)):=List.getElem?_eq_getElem (by omega)
  have h1:=hf j _ hj'
  rw [ho,hk] at h1
  have hone':(cs'.drop j).take 1=[cs'[j]'(by omega)]:=by
   rw [List.drop_eq_getElem_cons (by omega)]
   rfl
  rw [hone'] at h1
  have hys:ys[j]?=some (ys[j]'(by omega)):=List.getElem?_eq_getElem (by omega)
  rw [hys] at h1
  obtain ⟨k,hk1,_⟩:=DataW.trod_int (hint j _ hj') h1
  refine ⟨k,?_⟩
  simp only [List.cons.injEq,and_true] at hk1
  rw [← Go.Deep.add_add,hcell,hv,hk1]
theorem open_rs2 {t e:TypeId} {f0 f1:Field} {v:Value} {d:DataW H} {p:List MemPlace} (ht:P.underlying t=some (.slice e)) (he:P.underlying e=some (.struct #[f0,f1]))
  (hone:oneCellFields P #[f0,f1]=true) (hC:P.cellsOf e=2) (h0:P.underlying f0.type=some (.int .i64)) (h1:P.underlying f1.type=some (.int .i64)) (hval:Value.okWide P w r b0 t v) (h:DataW.Trod enc P w base spare held t v d p) :
  ∃ xs,CR w w.heap.size (okb (fun _=>True) w.heap.size fun _=>none) (rs2 xs) v∧xs.length≤maxLen:=by
 rcases open_rows ht he hone hC (fun j f hj=>by
  match j,hj with
  | 0,hj=>simp at hj; subst hj; exact h0
  | 1,hj=>simp at hj; subst hj; exact h1
  | j+2,hj=>simp at hj) hval h with rfl | ⟨a,len,cap,rfl,hl,hm,hc⟩
 ·exact ⟨[],.sl0 _ _ _ (Nat.zero_le _),Nat.zero_le _⟩
 ·obtain ⟨f,hf⟩:=cr_rows (w:=w) (B:=w.heap.size) (ok:=okb (fun _=>True) w.heap.size fun _=>none) rfl (ok_top _) 2 (by omega) hl hm (by simpa using hc)
  refine ⟨(List.range len).map fun i=>(f i 0,f i 1),?_,by simp; omega⟩
  unfold rs2
  rw [List.map_map]
  exact hf
end
end Go.Lg

namespace Go.Lg
variable [GL]
set_option linter.unusedSimpArgs false
set_option linter.unusedVariables false
set_option linter.unusedVariables false

def frOf (e:Env) (id:Nat):Bool:=!(id % 8 == 7) && !Env.mentions id e
def opv (e:Env):Opd→DV
 | .t n=>look e n
 | .c d=>d
def nx (Γ:Fns) (os:List LOp) (e:Env) (d:Option Nat):Option (DV×OB)→Option LS
 | some (v,ob)=>runL Γ os ⟨putD e d v,ob⟩
 | none=>none
def gate (x:DV) (want:Bool) (a b:Option LS):Option LS:=match x with
 | .b x=>if x=want then a else b
 | .und=>b
 | _=>none
theorem opv_t (e:Env) (n:Nat):opv e (.t n)=look e n:=rfl
theorem opv_c (e:Env) (d:DV):opv e (.c d)=d:=rfl
theorem nx_some (Γ:Fns) (os:List LOp) (e:Env) (d:Option Nat) (v:DV) (ob:OB):nx Γ os e d (some (v,ob))=runL Γ os ⟨putD e d v,ob⟩:=rfl
theorem nx_none (Γ:Fns) (os:List LOp) (e:Env) (d:Option Nat):nx Γ os e d none=none:=rfl
theorem gate_tt (a b:Option LS):gate (.b true) true a b=a:=rfl
theorem gate_tf (a b:Option LS):gate (.b true) false a b=b:=rfl
theorem gate_ft (a b:Option LS):gate (.b false) true a b=b:=rfl
theorem gate_ff (a b:Option LS):gate (.b false) false a b=a:=rfl
theorem gate_u (w:Bool) (a b:Option LS):gate .und w a b=b:=by cases w <;> rfl

section
variable (Γ:Fns) (os:List LOp) (e:Env) (ob:OB) (d:Nat)
theorem rl_nil (S:LS):runL Γ [] S=some S:=rfl
theorem rl_gate (k:K) (args:List Opd) (t:Nat) (w:Bool):runL Γ (⟨some d,k,args,some (t,w)⟩ :: os) ⟨e,ob⟩=gate (look e t) w (runL Γ (⟨some d,k,args,none⟩ :: os) ⟨e,ob⟩) (runL Γ os ⟨put e d .und,ob⟩):=by
 simp only [runL,stepL,gate]
 cases look e t <;> try rfl
 rename_i x
 by_cases h:x=w <;> simp [h,putD]
theorem rl_mv (a:Opd):runL Γ (⟨some d,.mv,[a],none⟩ :: os) ⟨e,ob⟩=runL Γ os ⟨put e d (opv e a),ob⟩:=by cases a <;> rfl
theorem rl_gen (dd:Option Nat) (k:K) (args:List Opd):runL Γ (⟨dd,k,args,none⟩ :: os) ⟨e,ob⟩=nx Γ os e dd (eff Γ (frOf e) k (args.map (opv e)) ob):=by
 have:(args.map (LS.get ⟨e,ob⟩))=args.map (opv e):=by
  apply List.map_congr_left
  intro a _
  cases a <;> rfl
 have hf:(fun id=>!(id % 8 == 7) && !Env.mentions id e)=frOf e:=rfl
 simp only [runL,stepL,this,hf]
 cases eff Γ (frOf e) k (args.map (opv e)) ob <;> rfl
end

theorem fr_ap (e:Env) (id:Nat):frOf e id=(!(id % 8 == 7) && !Env.mentions id e):=rfl
section
variable (id:Nat) (r:Env) (t:Nat)
theorem em_nil:Env.mentions id []=false:=rfl
theorem em_i (n:Int):Env.mentions id ((t,.i n) :: r)=Env.mentions id r:=rfl
theorem em_w (n:BitVec 32):Env.mentions id ((t,.w n) :: r)=Env.mentions id r:=rfl
theorem em_q (n:Nat):Env.mentions id ((t,.q n) :: r)=Env.mentions id r:=rfl
theorem em_r (n:Int):Env.mentions id ((t,.r n) :: r)=Env.mentions id r:=rfl
theorem em_fn (f:Nat) (n:List DV):Env.mentions id ((t,.fn f n) :: r)=Env.mentions id r:=rfl
theorem em_y (n:Nat):Env.mentions id ((t,.y n) :: r)=Env.mentions id r:=rfl
theorem em_b (n:Bool):Env.mentions id ((t,.b n) :: r)=Env.mentions id r:=rfl
theorem em_s (n:List UInt8):Env.mentions id ((t,.s n) :: r)=Env.mentions id r:=rfl
theorem em_st (n:List DV):Env.mentions id ((t,.st n) :: r)=Env.mentions id r:=rfl
theorem em_sl (p:Nat) (n:List DV):Env.mentions id ((t,.sl p n) :: r)=Env.mentions id r:=rfl
theorem em_own (k n lo hi:Nat):Env.mentions id ((t,.own k n lo hi) :: r)=(k == id || Env.mentions id r):=rfl
theorem em_adr (n:DV):Env.mentions id ((t,.adr n) :: r)=Env.mentions id r:=rfl
theorem em_oad (k n lo hi:Nat):Env.mentions id ((t,.oad k n lo hi) :: r)=(k == id || Env.mentions id r):=rfl
theorem em_ref (n:DV):Env.mentions id ((t,.ref n) :: r)=Env.mentions id r:=rfl
theorem em_nl:Env.mentions id ((t,.nil) :: r)=Env.mentions id r:=rfl
theorem em_np:Env.mentions id ((t,.np) :: r)=Env.mentions id r:=rfl
theorem em_und:Env.mentions id ((t,.und) :: r)=Env.mentions id r:=rfl
theorem em_dead:Env.mentions id ((t,.dead) :: r)=Env.mentions id r:=rfl
theorem em_cel (a b:Nat):Env.mentions id ((t,.cel a b) :: r)=Env.mentions id r:=rfl
theorem em_tup0:Env.mentions id ((t,.tup []) :: r)=Env.mentions id r:=rfl
theorem em_tup_i (n:Int) (l:List DV):Env.mentions id ((t,.tup (.i n :: l)) :: r)=Env.mentions id ((t,.tup l) :: r):=rfl
theorem em_tup_w (n:BitVec 32) (l:List DV):Env.mentions id ((t,.tup (.w n :: l)) :: r)=Env.mentions id ((t,.tup l) :: r):=rfl
theorem em_tup_q (n:Nat) (l:List DV):Env.mentions id ((t,.tup (.q n :: l)) :: r)=Env.mentions id ((t,.tup l) :: r):=rfl
theorem em_tup_r (n:Int) (l:List DV):Env.mentions id ((t,.tup (.r n :: l)) :: r)=Env.mentions id ((t,.tup l) :: r):=rfl
theorem em_tup_b (n:Bool) (l:List DV):Env.mentions id ((t,.tup (.b n :: l)) :: r)=Env.mentions id ((t,.tup l) :: r):=rfl
theorem em_tup_s (n:List UInt8) (l:List DV):Env.mentions id ((t,.tup (.s n :: l)) :: r)=Env.mentions id ((t,.tup l) :: r):=rfl
theorem em_tup_sl (p:Nat) (n:List DV) (l:List DV):Env.mentions id ((t,.tup (.sl p n :: l)) :: r)=Env.mentions id ((t,.tup l) :: r):=rfl
theorem em_tup_st (n:List DV) (l:List DV):Env.mentions id ((t,.tup (.st n :: l)) :: r)=Env.mentions id ((t,.tup l) :: r):=rfl
theorem em_tup_np (l:List DV):Env.mentions id ((t,.tup (.np :: l)) :: r)=Env.mentions id ((t,.tup l) :: r):=rfl
theorem em_tup_own (k n lo hi:Nat) (l:List DV):Env.mentions id ((t,.tup (.own k n lo hi :: l)) :: r)=(k == id || Env.mentions id ((t,.tup l) :: r)):=by
 show (((k == id) || _) || _)=_
 rw [Bool.or_assoc]; rfl
theorem em_tup_oad (k n lo hi:Nat) (l:List DV):Env.mentions id ((t,.tup (.oad k n lo hi :: l)) :: r)=(k == id || Env.mentions id ((t,.tup l) :: r)):=by
 show (((k == id) || _) || _)=_
 rw [Bool.or_assoc]; rfl
end
section
variable (k:Nat)
theorem mm_i (n:Int):DV.mentions k (.i n)=false:=rfl
theorem mm_w (n:BitVec 32):DV.mentions k (.w n)=false:=rfl
theorem mm_q (n:Nat):DV.mentions k (.q n)=false:=rfl
theorem mm_r (n:Int):DV.mentions k (.r n)=false:=rfl
theorem mm_fn (f:Nat) (n:List DV):DV.mentions k (.fn f n)=false:=rfl
theorem mm_y (n:Nat):DV.mentions k (.y n)=false:=rfl
theorem mm_b (n:Bool):DV.mentions k (.b n)=false:=rfl
theorem mm_s (n:List UInt8):DV.mentions k (.s n)=false:=rfl
theorem mm_st (n:List DV):DV.mentions k (.st n)=false:=rfl
theorem mm_sl (p:Nat) (n:List DV):DV.mentions k (.sl p n)=false:=rfl
theorem mm_own (j n lo hi:Nat):DV.mentions k (.own j n lo hi)=(j == k):=rfl
theorem mm_oad (j n lo hi:Nat):DV.mentions k (.oad j n lo hi)=(j == k):=rfl
theorem mm_adr (n:DV):DV.mentions k (.adr n)=false:=rfl
theorem mm_nil:DV.mentions k .nil=false:=rfl
theorem mm_np:DV.mentions k .np=false:=rfl
theorem mm_und:DV.mentions k .und=false:=rfl
theorem mm_dead:DV.mentions k .dead=false:=rfl
theorem mm_cel (a b:Nat):DV.mentions k (.cel a b)=false:=rfl
end
section
variable (Γ:Fns) (fr:Nat→Bool) (ob:OB)
theorem ef_mv (x:DV):eff Γ fr .mv [x] ob=some (x,ob):=rfl
theorem ef_newnil (id:Nat):eff Γ fr (.newnil id) [] ob=if fr id then some (.own id 0 0 0,putO ob id []) else none:=rfl
theorem ef_pickt (x y:DV):eff Γ fr .pick [.b true,x,y] ob=some (x,ob):=rfl
theorem ef_pickf (x y:DV):eff Γ fr .pick [.b false,x,y] ob=some (y,ob):=rfl
theorem ef_bin (op:BinOp) (x y:DV):eff Γ fr (.bin op) [x,y] ob=(binD op x y).map (·,ob):=rfl
theorem ef_eqb (g x y:Bool):eff Γ fr (.eqb g) [.b x,.b y] ob=some (.b (xor g (x == y)),ob):=rfl
theorem ef_eqs (g:Bool) (n:Nat) (xs ys:List DV):eff Γ fr (.eqs g n) [.st xs,.st ys] ob=if xs.length=n∧ys.length=n then (eqI xs ys).map fun r=>(.b (xor g r),ob) else none:=rfl
theorem ef_un (op:UnOp) (x:DV):eff Γ fr (.un op) [x] ob=(unD op x).map (·,ob):=rfl
theorem ef_lens (l:List UInt8):eff Γ fr .lens [.s l] ob=some (.i l.length,ob):=rfl
theorem ef_len_sl (p:Nat) (es:List DV):eff Γ fr .len [.sl p es] ob=some (.i es.length,ob):=rfl
theorem ef_len_own (k n lo hi:Nat):eff Γ fr .len [.own k n lo hi] ob=some (.i (hi - lo:Nat),ob):=rfl
theorem ef_len_nil:eff Γ fr .len [.nil] ob=some (.i 0,ob):=rfl
theorem ef_chk_adr (d:DV):eff Γ fr .chk [.adr d] ob=some (.adr d,ob):=rfl
theorem ef_chk_oad (k n a o:Nat):eff Γ fr .chk [.oad k n a o] ob=some (.oad k n a o,ob):=rfl
theorem ef_fld_adr (off sz:Nat) (agg:Bool) (d:DV):eff Γ fr (.fld off sz agg) [.adr d] ob=(part d.cells off sz agg).map (.adr ·,ob):=rfl
theorem ef_fld_oad (off sz:Nat) (agg:Bool) (k n a o:Nat):eff Γ fr (.fld off sz agg) [.oad k n a o] ob=some (.oad k n a (o+off),ob):=rfl
theorem ef_fldv (off sz:Nat) (agg:Bool) (cs:List DV):eff Γ fr (.fldv off sz agg) [.st cs] ob=(part cs off sz agg).map (·,ob):=rfl
def idxR (sz:Nat) (ob:OB):Option DV→Option (DV×OB)
 | some e=>if e.cells.length=sz then some (.adr e,ob) else none
 | none=>none
theorem idxR_some (sz:Nat) (e:DV):idxR sz ob (some e)=if e.cells.length=sz then some (.adr e,ob) else none:=rfl
def atI (es:List DV) (n:Int):Option DV:=if 0≤n then es[n.toNat]? else none
theorem ef_idxa_sl (sz p:Nat) (es:List DV) (n:Int):eff Γ fr (.idxa sz) [.sl p es,.i n] ob=idxR sz ob (atI es n):=by
 show effP fr (.idxa sz) [.sl p es,.i n] ob=_
 simp only [effP,atI]
 split
 ·cases es[n.toNat]? <;> rfl
 ·rfl
theorem ef_idxa_own (sz k m lo hi:Nat) (n:Int):eff Γ fr (.idxa sz) [.own k m lo hi,.i n] ob=match elems ob (.own k m lo hi) with
   | some es=>if szId k=sz∧0≤n∧n < es.length then some (.oad k m (lo+n.toNat) 0,ob) else none
   | none=>none:=rfl
theorem ef_idx (l:List UInt8) (n:Int):eff Γ fr .idx [.s l,.i n] ob=if 0≤n then (l[n.toNat]?).map (.y ·.toNat,ob) else none:=rfl
theorem ef_load_adr_st (sz:Nat) (cs:List DV):eff Γ fr (.load sz true) [.adr (.st cs)] ob=if cs.length=sz then some (.st cs,ob) else none:=by
 show effP fr (.load sz true) [.adr (.st cs)] ob=_
 simp only [effP,Bool.true_and,beq_iff_eq]
 split <;> rfl
theorem ef_load_adr_i (sz:Nat) (n:Int):eff Γ fr (.load sz false) [.adr (.i n)] ob=some (.i n,ob):=rfl
theorem ef_load_adr_fn (sz:Nat) (f:Nat) (cs:List DV):eff Γ fr (.load sz false) [.adr (.fn f cs)] ob=some (.fn f cs,ob):=rfl
theorem ef_load_adr_w (sz:Nat) (n:BitVec 32):eff Γ fr (.load sz false) [.adr (.w n)] ob=some (.w n,ob):=rfl
theorem ef_load_adr_q (sz:Nat) (n:Nat):eff Γ fr (.load sz false) [.adr (.q n)] ob=some (.q n,ob):=rfl
theorem ef_load_adr_r (sz:Nat) (n:Int):eff Γ fr (.load sz false) [.adr (.r n)] ob=some (.r n,ob):=rfl
theorem ef_load_adr_y (sz:Nat) (n:Nat):eff Γ fr (.load sz false) [.adr (.y n)] ob=some (.y n,ob):=rfl
theorem ef_load_adr_b (sz:Nat) (n:Bool):eff Γ fr (.load sz false) [.adr (.b n)] ob=some (.b n,ob):=rfl
theorem ef_load_adr_s (sz:Nat) (n:List UInt8):eff Γ fr (.load sz false) [.adr (.s n)] ob=some (.s n,ob):=rfl
theorem ef_load_adr_sl (sz p:Nat) (n:List DV):eff Γ fr (.load sz false) [.adr (.sl p n)] ob=some (.sl p n,ob):=rfl
def atN (es:List DV) (a:Nat):Option DV:=es[a]?
theorem atN_nil (a:Nat):atN [] a=none:=rfl
theorem atN_zero (x:DV) (xs:List DV):atN (x :: xs) 0=some x:=rfl
theorem atN_succ (x:DV) (xs:List DV) (n:Nat):atN (x :: xs) (n+1)=atN xs n:=rfl
theorem ef_load_oad (sz:Nat) (agg:Bool) (k n a o:Nat):eff Γ fr (.load sz agg) [.oad k n a o] ob=match lookO ob k with
   | some es=>if es.length=n then match atN es a with
     | some e=>(part e.cells o sz agg).map (·,ob)
     | none=>none
    else none
   | none=>none:=rfl
theorem ef_store (sz k n a o:Nat) (v:DV):eff Γ fr (.store sz) [.oad k n a o,v] ob=match settle ob v with
   | some (v',ob1)=>match lookO ob1 k with
    | some es=>if es.length=n∧v'.cells.length=sz then match atN es a with
      | some e=>if o+sz≤e.cells.length then some (.dead,putO ob1 k (es.set a (unpart e (over e.cells o v'.cells)))) else none
      | none=>none
     else none
    | none=>none
   | none=>none:=rfl
theorem ef_slice (lo hi:Bool) (sz:Nat) (x:DV) (r:List DV):eff Γ fr (.slice lo hi sz) (x :: r) ob=match bounds lo hi r with
   | some (a,h)=>(sliceD ob x sz a h).map (·,ob)
   | none=>none:=rfl
theorem ef_slices (lo hi:Bool) (l:List UInt8) (r:List DV):eff Γ fr (.slices lo hi) (.s l :: r) ob=match bounds lo hi r with
   | some (a,h)=>(sliceS l a h).map (·,ob)
   | none=>none:=rfl
theorem ef_make (id sz:Nat) (z:DV) (n c:Int):eff Γ fr (.make id sz z) [.i n,.i c] ob=if fr id∧0≤n∧n≤c∧c≤bound then some (.own id n.toNat 0 n.toNat,putO ob id (List.replicate n.toNat z)) else none:=rfl
theorem ef_alloc (id:Nat) (z:DV):eff Γ fr (.alloc id z) [] ob=if fr id then some (.oad id 1 0 0,putO ob id [z]) else none:=rfl
theorem ef_box (id:Nat) (v:DV):eff Γ fr (.box id) [v] ob=match settle ob v with
   | some (v',ob1)=>if fr id∧v'.cells.length=szId id then some (.oad id 1 0 0,putO ob1 id [v']) else none
   | none=>none:=rfl
theorem ef_build (z:List DV) (ps:List (Nat×Nat)) (xs:List DV):eff Γ fr (.build z ps) xs ob=match settleL ob xs with
   | some (vs,ob1)=>(fillP z ps vs).map fun cs=>(.st cs,ob1)
   | none=>none:=rfl
theorem ef_bslice (id len sz:Nat) (z:DV) (ps:List Nat) (xs:List DV) (h:(id % 8 == 5)=false):eff Γ fr (.bslice id len sz z ps) xs ob=match settleL ob xs with
   | some (vs,ob1)=>if fr id then (fillE sz (List.replicate len z) ps vs).map fun es=>(.own id len 0 len,putO ob1 id es) else none
   | none=>none:=by
 have h5:¬ id % 8=5:=by simpa using h
 simp only [eff,effP,h5,false_implies,and_true,if_false]
 cases settleL ob xs <;> rfl
theorem ef_bslice5 (id len sz:Nat) (z:DV) (ps:List Nat) (xs:List DV) (h:(id % 8 == 5)=true):eff Γ fr (.bslice id len sz z ps) xs ob=match settleL ob xs with
   | some (vs,ob1)=>if fr id∧lookO ob1 id=none then (fillE sz (List.replicate len z) ps vs).map fun es=>(.cel id len,putO ob1 id es) else none
   | none=>none:=by
 have h5:id % 8=5:=by simpa using h
 simp only [eff,effP,h5,true_implies,if_true]
 cases settleL ob xs <;> rfl
theorem ef_app_cel (id sz k n:Nat) (x:DV):eff Γ fr (.app id sz) [.cel k n,x] ob=match elems ob x with
   | some news=>if ∀ e∈news,e.cells.length=sz then match lookO ob k with
      | some es=>if szId k=sz∧es.length=n∧n+news.length≤bound then some (.cel k (n+news.length),putO ob k (es++news)) else none
      | none=>none
    else none
   | none=>none:=rfl
theorem ef_app_own (id sz k n h:Nat) (x:DV):eff Γ fr (.app id sz) [.own k n 0 h,x] ob=match elems ob x with
   | some news=>if ∀ e∈news,e.cells.length=sz then match lookO ob k with
      | some es=>if k % 8≠7∧szId k=sz∧es.length=n∧h=n∧n+news.length≤bound then some (.own k (n+news.length) 0 (n+news.length),putO ob k (es++news))
       else if k % 8≠7∧szId k=sz∧es.length=n∧h < n∧h+news.length≤bound then
        if h+news.length≤n then some (.own k n 0 (h+news.length),putO ob k (es.take h++news++es.drop (h+news.length)))
        else some (.own k (h+news.length) 0 (h+news.length),putO ob k (es.take h++news))
       else none
      | none=>none
    else none
   | none=>none:=rfl
theorem ef_app_nil (id sz:Nat) (x:DV):eff Γ fr (.app id sz) [.nil,x] ob=match elems ob x with
   | some news=>if ∀ e∈news,e.cells.length=sz then (if fr id∧szId id=sz∧news.length≤bound then some (.own id news.length 0 news.length,putO ob id news) else none) else none
   | none=>none:=rfl
theorem ef_b2i (id n:Nat):eff Γ fr (.conv .b2i id) [.y n] ob=some (.i n,ob):=rfl
theorem ef_i2b (id:Nat) (n:Int):eff Γ fr (.conv .i2b id) [.i n] ob=some (.y (wr8 n),ob):=rfl
theorem ef_i2i (id:Nat) (n:Int):eff Γ fr (.conv .i2i id) [.i n] ob=some (.i (wr n),ob):=rfl
theorem ef_same (id:Nat) (n:List UInt8):eff Γ fr (.conv .same id) [.s n] ob=some (.s n,ob):=rfl
theorem ef_eqn_nil (g:Bool):eff Γ fr (.eqn g) [.nil] ob=some (.b (!g),ob):=rfl
theorem ef_eqn_sl (g:Bool) (p:Nat) (es:List DV):eff Γ fr (.eqn g) [.sl p es] ob=if es.isEmpty=true then none else some (.b g,ob):=rfl
theorem ef_eqn_own (g:Bool) (k n lo hi:Nat):eff Γ fr (.eqn g) [.own k n lo hi] ob=match elems ob (.own k n lo hi) with
  | some es=>if es.isEmpty=true then none else some (.b g,ob)
  | none=>none:=rfl
theorem ef_mmx (a b:Int):eff Γ fr (.mm true) [.i a,.i b] ob=some (.i (max a b),ob):=rfl
theorem ef_mmn (a b:Int):eff Γ fr (.mm false) [.i a,.i b] ob=some (.i (min a b),ob):=rfl
theorem ef_i2r (id:Nat) (n:Int):eff Γ fr (.conv .i2r id) [.i n] ob=some (.r (IntKind.i32.wrap n),ob):=rfl
theorem ef_i2q (id:Nat) (n:Int):eff Γ fr (.conv .i2q id) [.i n] ob=some (.q (n % 18446744073709551616).toNat,ob):=rfl
theorem ef_q2i (id:Nat) (n:Nat):eff Γ fr (.conv .q2i id) [.q n] ob=some (.i (wr n),ob):=rfl
theorem ef_q2q (id:Nat) (n:Nat):eff Γ fr (.conv .q2q id) [.q n] ob=some (.q n,ob):=rfl
theorem ef_b2s (id:Nat) (x:DV):eff Γ fr (.conv .b2s id) [x] ob=b2sO ob (elems ob x):=rfl
theorem ys_nil:ysOf []=some []:=rfl
theorem ys_cons (n:Nat) (r:List DV):ysOf (.y n :: r)=(ysOf r).map fun l=>UInt8.ofNat n :: l:=by
 simp only [ysOf]
 cases ysOf r <;> rfl
theorem ys_map:∀ l:List UInt8,ysOf (l.map fun b=>DV.y b.toNat)=some l
 | []=>rfl
 | b :: r=>by
  simp only [List.map_cons,ysOf]
  rw [ys_map r]
  simp
theorem bs_some (l:List DV):b2sO ob (some l)=(ysOf l).map fun l=>(.s l,ob):=rfl
theorem ef_r2s (id:Nat) (n:Int):eff Γ fr (.conv .r2s id) [.r n] ob=if 0≤n∧n < 128 then some (.s [n.toNat.toUInt8],ob) else none:=rfl
theorem ef_mkfn (f:Nat) (xs:List DV):eff Γ fr (.mkfn (mkNo f 0)) xs ob=match capL ob xs with
  | some (cs,ob1)=>some (.fn f cs,ob1)
  | none=>none:=by
 show (match capL ob (fnIn (mkNo f 0) xs) with | some (cs,ob1)=>some (DV.fn (mkNo f 0 / 2) (if mkNo f 0 % 2=1 then .dead :: cs else cs),ob1) | none=>none)=_
 unfold fnIn
 rw [if_neg (mkNo_0 f).1,(mkNo_0 f).2]
 simp only [if_neg (mkNo_0 f).1]
theorem ef_mkbd (f:Nat) (cs:List DV):eff Γ fr (.mkfn (mkNo f 1)) [.st cs] ob=match capL ob cs with
  | some (es,ob1)=>some (.fn f (.dead :: es),ob1)
  | none=>none:=by
 show (match capL ob (fnIn (mkNo f 1) [.st cs]) with | some (cs,ob1)=>some (DV.fn (mkNo f 1 / 2) (if mkNo f 1 % 2=1 then .dead :: cs else cs),ob1) | none=>none)=_
 unfold fnIn
 rw [if_pos (mkNo_1 f).1,(mkNo_1 f).2]
 simp only [if_pos (mkNo_1 f).1]
theorem ef_idxp_adr (len sz:Nat) (d:DV) (i:Int):eff Γ fr (.idxp len sz) [.adr d,.i i] ob=if 0≤i∧i < len then (part d.cells (i.toNat * sz) sz (sz != 1)).map (.adr ·,ob) else none:=rfl
theorem ef_idxp_q (len sz:Nat) (d:DV) (i:Nat):eff Γ fr (.idxp len sz) [.adr d,.q i] ob=if i < len then (part d.cells (i * sz) sz (sz != 1)).map (.adr ·,ob) else none:=rfl
theorem ef_idxp (len sz k n a o:Nat) (i:Int):eff Γ fr (.idxp len sz) [.oad k n a o,.i i] ob=if 0≤i∧i < len then some (.oad k n a (o+i.toNat * sz),ob) else none:=rfl
theorem ef_ext (j:Nat) (ds:List DV):eff Γ fr (.ext j) [.tup ds] ob=(ds[j]?).map (·,ob):=rfl
def retC (o:Bool) (fr:Nat→Bool) (id:Nat) (ob:OB):DV→Option (DV×OB)
 | .tup ds=>match takeInL o fr ob (id+1) ds with
  | some (es,ob2)=>some (.tup es,ob2)
  | none=>none
 | d=>takeIn o fr ob id d
def ret1 (m:Bool) (fr:Nat→Bool) (id:Nat) (xs:List DV) (ob:OB) (r:DV) (outs:List DV):Option (DV×OB) :=
 if !(lendsOwn m xs && !(newRes r && newOuts outs)) && apartKs (refKs m xs) (lentKs m xs) then
  match putRefs m (oldArgs ob xs) ob xs outs with
  | none=>none
  | some ob1=>retC (oldArgs ob xs) fr id ob1 r
 else none
def ret2 (m:Bool) (fr:Nat→Bool) (id:Nat) (xs:List DV) (ob:OB):Option (DV×List DV)→Option (DV×OB)
 | none=>none
 | some (r,outs)=>ret1 m fr id xs ob r outs
theorem ret2_some (m:Bool) (id:Nat) (xs:List DV) (r:DV) (outs:List DV):ret2 m fr id xs ob (some (r,outs))=ret1 m fr id xs ob r outs:=rfl
def calL (m:Bool) (Γ:Fns) (fr:Nat→Bool) (f id:Nat) (xs:List DV) (ob:OB):Option (List DV)→Option (DV×OB)
 | none=>none
 | some as=>ret2 m fr id xs ob (Γ f as)
theorem calL_some (m:Bool) (f id:Nat) (xs as:List DV):calL m Γ fr f id xs ob (some as)=ret2 m fr id xs ob (Γ f as):=rfl
def gvK (d:DV):Option (List DV×OB)→Option (List DV×OB)
 | some (es,ob)=>some (d :: es,ob)
 | none=>none
def gvO (ds:List DV):Option (DV×OB)→Option (List DV×OB)
 | some (e,ob)=>gvK e (giveL ob ds)
 | none=>none
theorem gvK_some (d:DV) (es:List DV) (ob:OB):gvK d (some (es,ob))=some (d :: es,ob):=rfl
theorem gvO_some (ds:List DV) (e:DV) (ob:OB):gvO ds (some (e,ob))=gvK e (giveL ob ds):=rfl
theorem gv_e (ob:OB):giveL ob []=some ([],ob):=rfl
theorem gv_own (ob:OB) (k n lo hi:Nat) (ds:List DV):giveL ob (.own k n lo hi :: ds)=gvO ds (settle ob (.own k n lo hi)):=by
 simp only [giveL]
 cases settle ob (.own k n lo hi) with
 | none=>rfl
 | some p=>obtain ⟨e,o⟩:=p; simp only [gvO]; cases giveL o ds <;> rfl
theorem gv_i (ob:OB) (n:Int) (ds:List DV):giveL ob (.i n :: ds)=gvK (.i n) (giveL ob ds):=by
 simp only [giveL]; cases giveL ob ds <;> rfl
theorem gv_sl (ob:OB) (p:Nat) (es:List DV) (ds:List DV):giveL ob (.sl p es :: ds)=gvK (.sl p es) (giveL ob ds):=by
 simp only [giveL]; cases giveL ob ds <;> rfl
theorem gv_st (ob:OB) (cs:List DV) (ds:List DV):giveL ob (.st cs :: ds)=gvK (.st cs) (giveL ob ds):=by
 simp only [giveL]; cases giveL ob ds <;> rfl
theorem gv_b (ob:OB) (n:Bool) (ds:List DV):giveL ob (.b n :: ds)=gvK (.b n) (giveL ob ds):=by
 simp only [giveL]; cases giveL ob ds <;> rfl
theorem gv_nil (ob:OB) (ds:List DV):giveL ob (.nil :: ds)=gvK .nil (giveL ob ds):=by
 simp only [giveL]; cases giveL ob ds <;> rfl
def cgK (Γ:Fns) (fr:Nat→Bool) (f id:Nat):Option (List DV×OB)→Option (DV×OB)
 | some (ys,ob)=>eff Γ fr (.call f id) ys ob
 | none=>none
theorem cgK_some (f id:Nat) (ys:List DV):cgK Γ fr f id (some (ys,ob))=eff Γ fr (.call f id) ys ob:=rfl
theorem ef_callg (f id:Nat) (xs:List DV):eff Γ fr (.callg f id) xs ob=cgK Γ fr f id (giveL ob xs):=by
 rw [eff_callg]
 unfold callgD cgK
 cases giveL ob xs with
 | none=>rfl
 | some p=>obtain ⟨ys,ob1⟩:=p; exact (eff_call ..).symm
theorem ef_calld_nil (id f:Nat) (r:List DV):eff Γ fr (.calld id) (.fn f [] :: r) ob=eff Γ fr (.call f id) r ob:=by
 show (if capsOk []=true then eff Γ fr (.call f id) (r++[]) ob else none)=_
 rw [List.append_nil]; rfl
theorem ef_calld_adr (id f:Nat) (d:DV) (cs r:List DV):eff Γ fr (.calld id) (.fn f (.adr d :: cs) :: r) ob=if capsOk (.adr d :: cs)=true then eff Γ fr (.call f id) (r++.adr d :: cs) ob else none:=rfl
theorem ef_calld_bd (id f:Nat) (cs r:List DV):eff Γ fr (.calld id) (.fn f (.dead :: cs) :: r) ob=if cs.all DV.capB=true then eff Γ fr (.call f id) (.st cs :: r) ob else none:=rfl
theorem ef_callm (f:Nat) (ms:List Nat) (id:Nat) (xs:List DV):eff Γ fr (.callm f ms id) xs ob=eff Γ (givFr (givKs (givAt ms 0 xs)) fr) (.call f id) (givAt ms 0 xs) ob:=by
 rw [eff_callm,eff_call]
theorem gf_ap (ks:List Nat) (id:Nat):givFr ks fr id=(fr id && ((ks.all fun k=>decide (k % 8 < 6)) || id % 8 == 6)):=rfl
theorem ga_nil (ms:List Nat) (j:Nat):givAt ms j []=[]:=rfl
theorem ga_cons (ms:List Nat) (j:Nat) (d:DV) (ds:List DV):givAt ms j (d :: ds)=(if ms.contains j=true then d.toGiv else d) :: givAt ms (j+1) ds:=rfl
theorem tgv_own (k n lo hi:Nat):DV.toGiv (.own k n lo hi)=if lo=0∧hi=n then .giv k n else .dead:=rfl
theorem tgv_nil:DV.toGiv .nil=.ref .nil:=rfl
theorem gk_ref (c:DV) (ds:List DV):givKs (.ref c :: ds)=givKs ds:=rfl
theorem gk_e:givKs []=[]:=rfl
theorem gk_giv (k n:Nat) (ds:List DV):givKs (.giv k n :: ds)=k :: givKs ds:=rfl
theorem gk_i (n:Int) (ds:List DV):givKs (.i n :: ds)=givKs ds:=rfl
theorem gk_y (n:Nat) (ds:List DV):givKs (.y n :: ds)=givKs ds:=rfl
theorem gk_b (n:Bool) (ds:List DV):givKs (.b n :: ds)=givKs ds:=rfl
theorem gk_s (n:List UInt8) (ds:List DV):givKs (.s n :: ds)=givKs ds:=rfl
theorem gk_w (n:BitVec 32) (ds:List DV):givKs (.w n :: ds)=givKs ds:=rfl
theorem gk_q (n:Nat) (ds:List DV):givKs (.q n :: ds)=givKs ds:=rfl
theorem gk_r (n:Int) (ds:List DV):givKs (.r n :: ds)=givKs ds:=rfl
theorem gk_fn (f:Nat) (n ds:List DV):givKs (.fn f n :: ds)=givKs ds:=rfl
theorem gk_st (n ds:List DV):givKs (.st n :: ds)=givKs ds:=rfl
theorem gk_sl (p:Nat) (n ds:List DV):givKs (.sl p n :: ds)=givKs ds:=rfl
theorem gk_own (k n lo hi:Nat) (ds:List DV):givKs (.own k n lo hi :: ds)=givKs ds:=rfl
theorem gk_oad (k n lo hi:Nat) (ds:List DV):givKs (.oad k n lo hi :: ds)=givKs ds:=rfl
theorem gk_adr (n:DV) (ds:List DV):givKs (.adr n :: ds)=givKs ds:=rfl
theorem gk_nl (ds:List DV):givKs (.nil :: ds)=givKs ds:=rfl
theorem gk_np (ds:List DV):givKs (.np :: ds)=givKs ds:=rfl
theorem ef_call (f id:Nat) (xs:List DV):eff Γ fr (.call f id) xs ob=calL (mutB id) Γ fr f id xs ob (lendArgs (mutB id) ob xs):=by
 show callD Γ fr f id xs ob=_
 unfold callD calL ret2 ret1
 cases lendArgs (mutB id) ob xs with
 | none=>rfl
 | some as =>
  simp only
  generalize Γ f as=q
  cases q with
  | none=>rfl
  | some p =>
   obtain ⟨r,outs⟩:=p
   simp only
   split
   ·cases putRefs (mutB id) (oldArgs ob xs) ob xs outs with
    | none=>rfl
    | some ob1=>cases r <;> rfl
   ·rfl
theorem retC_i (o:Bool) (id:Nat) (n:Int):retC o fr id ob (.i n)=some (.i n,ob):=rfl
theorem retC_fn (o:Bool) (id:Nat) (f:Nat) (cs:List DV):retC o fr id ob (.fn f cs)=some (.fn f (adoptL o cs),ob):=rfl
theorem retC_w (o:Bool) (id:Nat) (n:BitVec 32):retC o fr id ob (.w n)=some (.w n,ob):=rfl
theorem retC_q (o:Bool) (id:Nat) (n:Nat):retC o fr id ob (.q n)=some (.q n,ob):=rfl
theorem retC_r (o:Bool) (id:Nat) (n:Int):retC o fr id ob (.r n)=some (.r n,ob):=rfl
theorem retC_y (o:Bool) (id:Nat) (n:Nat):retC o fr id ob (.y n)=some (.y n,ob):=rfl
theorem retC_b (o:Bool) (id:Nat) (n:Bool):retC o fr id ob (.b n)=some (.b n,ob):=rfl
theorem retC_s (o:Bool) (id:Nat) (n:List UInt8):retC o fr id ob (.s n)=some (.s n,ob):=rfl
theorem retC_st (o:Bool) (id:Nat) (n:List DV):retC o fr id ob (.st n)=some (.st (adoptL o n),ob):=rfl
theorem retC_sl (o:Bool) (id p:Nat) (n:List DV):retC o fr id ob (.sl p n)=some ((DV.sl p n).adopt o,ob):=rfl
theorem retC_np (o:Bool) (id:Nat):retC o fr id ob .np=some (.np,ob):=rfl
theorem retC_fr (o:Bool) (id sz:Nat) (es:List DV):retC o fr id ob (.fr sz es)=takeIn o fr ob id (.fr sz es):=rfl
theorem retC_ref (o:Bool) (id:Nat) (c:DV):retC o fr id ob (.ref c)=takeIn o fr ob id (.ref c):=rfl
theorem retC_tup (o:Bool) (id:Nat) (ds:List DV):retC o fr id ob (.tup ds)=match takeInL o fr ob (id+1) ds with
  | some (es,ob2)=>some (.tup es,ob2)
  | none=>none:=rfl
end
section
variable (m:Bool) (ds:List DV)
theorem rk_nil:refKs m []=[]:=rfl
theorem rk_i (n:Int):refKs m (.i n :: ds)=refKs m ds:=rfl
theorem rk_adr (n:DV):refKs m (.adr n :: ds)=refKs m ds:=rfl
theorem rk_w (n:BitVec 32):refKs m (.w n :: ds)=refKs m ds:=rfl
theorem rk_q (n:Nat):refKs m (.q n :: ds)=refKs m ds:=rfl
theorem rk_r (n:Int):refKs m (.r n :: ds)=refKs m ds:=rfl
theorem rk_fn (f:Nat) (n:List DV):refKs m (.fn f n :: ds)=refKs m ds:=rfl
theorem rk_y (n:Nat):refKs m (.y n :: ds)=refKs m ds:=rfl
theorem rk_b (n:Bool):refKs m (.b n :: ds)=refKs m ds:=rfl
theorem rk_s (n:List UInt8):refKs m (.s n :: ds)=refKs m ds:=rfl
theorem rk_st (n:List DV):refKs m (.st n :: ds)=refKs m ds:=rfl
theorem rk_sl (p:Nat) (n:List DV):refKs m (.sl p n :: ds)=refKs m ds:=rfl
theorem rk_own (k n lo hi:Nat):refKs false (.own k n lo hi :: ds)=refKs false ds:=rfl
theorem rk_own_t (k n lo hi:Nat):refKs true (.own k n lo hi :: ds)=k :: refKs true ds:=rfl
theorem rk_giv (k n:Nat):refKs m (.giv k n :: ds)=k :: refKs m ds:=rfl
theorem rk_oad (k n lo hi:Nat):refKs m (.oad k n lo hi :: ds)=k :: refKs m ds:=rfl
theorem rk_ref (c:DV):refKs m (.ref c :: ds)=refKs m ds:=rfl
theorem rk_nl:refKs m (.nil :: ds)=refKs m ds:=rfl
theorem ok_nil:ownKs []=[]:=rfl
theorem ok_i (n:Int):ownKs (.i n :: ds)=ownKs ds:=rfl
theorem ok_cel (a b:Nat):ownKs (.cel a b :: ds)=ownKs ds:=rfl
theorem ok_adr (n:DV):ownKs (.adr n :: ds)=ownKs ds:=rfl
theorem ok_w (n:BitVec 32):ownKs (.w n :: ds)=ownKs ds:=rfl
theorem ok_q (n:Nat):ownKs (.q n :: ds)=ownKs ds:=rfl
theorem ok_r (n:Int):ownKs (.r n :: ds)=ownKs ds:=rfl
theorem ok_fn (f:Nat) (n:List DV):ownKs (.fn f n :: ds)=ownKs ds:=rfl
theorem ok_y (n:Nat):ownKs (.y n :: ds)=ownKs ds:=rfl
theorem ok_b (n:Bool):ownKs (.b n :: ds)=ownKs ds:=rfl
theorem ok_s (n:List UInt8):ownKs (.s n :: ds)=ownKs ds:=rfl
theorem ok_st (n:List DV):ownKs (.st n :: ds)=ownKs ds:=rfl
theorem ok_sl (p:Nat) (n:List DV):ownKs (.sl p n :: ds)=ownKs ds:=rfl
theorem ok_giv (k n:Nat):ownKs (.giv k n :: ds)=ownKs ds:=rfl
theorem ok_own (k n lo hi:Nat):ownKs (.own k n lo hi :: ds)=k :: ownKs ds:=rfl
theorem ok_oad (k n lo hi:Nat):ownKs (.oad k n lo hi :: ds)=ownKs ds:=rfl
theorem ok_ref (c:DV):ownKs (.ref c :: ds)=ownKs ds:=rfl
theorem ok_nl:ownKs (.nil :: ds)=ownKs ds:=rfl
theorem lo_nil:lendsOwn m []=false:=rfl
theorem lo_i (n:Int):lendsOwn m (.i n :: ds)=lendsOwn m ds:=rfl
theorem lo_adr (n:DV):lendsOwn m (.adr n :: ds)=lendsOwn m ds:=rfl
theorem lo_w (n:BitVec 32):lendsOwn m (.w n :: ds)=lendsOwn m ds:=rfl
theorem lo_q (n:Nat):lendsOwn m (.q n :: ds)=lendsOwn m ds:=rfl
theorem lo_r (n:Int):lendsOwn m (.r n :: ds)=lendsOwn m ds:=rfl
theorem lo_fn (f:Nat) (n:List DV):lendsOwn m (.fn f n :: ds)=lendsOwn m ds:=rfl
theorem lo_y (n:Nat):lendsOwn m (.y n :: ds)=lendsOwn m ds:=rfl
theorem lo_b (n:Bool):lendsOwn m (.b n :: ds)=lendsOwn m ds:=rfl
theorem lo_s (n:List UInt8):lendsOwn m (.s n :: ds)=lendsOwn m ds:=rfl
theorem lo_st (n:List DV):lendsOwn m (.st n :: ds)=lendsOwn m ds:=rfl
theorem lo_sl (p:Nat) (n:List DV):lendsOwn m (.sl p n :: ds)=lendsOwn m ds:=rfl
theorem lo_giv (k n:Nat):lendsOwn m (.giv k n :: ds)=lendsOwn m ds:=rfl
theorem lo_own (k n lo hi:Nat):lendsOwn false (.own k n lo hi :: ds)=true:=rfl
theorem lo_own_t (k n lo hi:Nat):lendsOwn true (.own k n lo hi :: ds)=lendsOwn true ds:=rfl
theorem lk_f:lentKs false ds=ownKs ds:=rfl
theorem lk_t:lentKs true ds=[]:=rfl
theorem lo_oad (k n lo hi:Nat):lendsOwn m (.oad k n lo hi :: ds)=lendsOwn m ds:=rfl
theorem lo_ref (c:DV):lendsOwn m (.ref c :: ds)=lendsOwn m ds:=rfl
theorem lo_nl:lendsOwn m (.nil :: ds)=lendsOwn m ds:=rfl
variable (o:Bool) (ob:OB) (cs:List DV)
theorem pr_nil:putRefs m o ob [] []=some ob:=rfl
theorem pr_i (n:Int):putRefs m o ob (.i n :: ds) cs=putRefs m o ob ds cs:=by cases cs <;> rfl
theorem pr_adr (n:DV):putRefs m o ob (.adr n :: ds) cs=putRefs m o ob ds cs:=by cases cs <;> rfl
theorem pr_w (n:BitVec 32):putRefs m o ob (.w n :: ds) cs=putRefs m o ob ds cs:=by cases cs <;> rfl
theorem pr_q (n:Nat):putRefs m o ob (.q n :: ds) cs=putRefs m o ob ds cs:=by cases cs <;> rfl
theorem pr_r (n:Int):putRefs m o ob (.r n :: ds) cs=putRefs m o ob ds cs:=by cases cs <;> rfl
theorem pr_fn (f:Nat) (n:List DV):putRefs m o ob (.fn f n :: ds) cs=putRefs m o ob ds cs:=by cases cs <;> rfl
theorem pr_y (n:Nat):putRefs m o ob (.y n :: ds) cs=putRefs m o ob ds cs:=by cases cs <;> rfl
theorem pr_b (n:Bool):putRefs m o ob (.b n :: ds) cs=putRefs m o ob ds cs:=by cases cs <;> rfl
theorem pr_s (n:List UInt8):putRefs m o ob (.s n :: ds) cs=putRefs m o ob ds cs:=by cases cs <;> rfl
theorem pr_st (n:List DV):putRefs m o ob (.st n :: ds) cs=putRefs m o ob ds cs:=by cases cs <;> rfl
theorem pr_sl (p:Nat) (n:List DV):putRefs m o ob (.sl p n :: ds) cs=putRefs m o ob ds cs:=by cases cs <;> rfl
theorem pr_giv (k n:Nat):putRefs m o ob (.giv k n :: ds) cs=putRefs m o (dropO ob k) ds cs:=by cases cs <;> rfl
theorem pr_own (k n lo hi:Nat):putRefs false o ob (.own k n lo hi :: ds) cs=putRefs false o ob ds cs:=by cases cs <;> rfl
theorem pr_own_t (k n lo hi z:Nat) (es:List DV):putRefs true o ob (.own k n lo hi :: ds) (.fr z es :: cs)=putRefs true o (putO ob k (adoptL o es)) ds cs:=rfl
theorem pr_ref (c:DV):putRefs m o ob (.ref c :: ds) cs=putRefs m o ob ds cs:=by cases cs <;> rfl
theorem pr_nl:putRefs m o ob (.nil :: ds) cs=putRefs m o ob ds cs:=by cases cs <;> rfl
theorem pr_oad (k n lo hi:Nat) (c:DV):putRefs m o ob (.oad k n lo hi :: ds) (c :: cs)=putRefs m o (putO ob k [c.adopt o]) ds cs:=rfl
theorem nr_i (n:Int):newRes (.i n)=true:=rfl
theorem nr_fn (f:Nat) (cs:List DV):newRes (.fn f cs)=allNewL cs:=rfl
theorem nr_w (n:BitVec 32):newRes (.w n)=true:=rfl
theorem nr_q (n:Nat):newRes (.q n)=true:=rfl
theorem nr_r (n:Int):newRes (.r n)=true:=rfl
theorem nr_y (n:Nat):newRes (.y n)=true:=rfl
theorem nr_b (n:Bool):newRes (.b n)=true:=rfl
theorem nr_s (n:List UInt8):newRes (.s n)=true:=rfl
theorem nr_st (n:List DV):newRes (.st n)=allNewL n:=by simp [newRes,DV.allNew]
theorem nr_sl (p:Nat) (n:List DV):newRes (.sl p n)=(newP p && allNewL n):=by simp [newRes,DV.allNew]
theorem nr_fr (sz:Nat) (n:List DV):newRes (.fr sz n)=allNewL n:=rfl
theorem nr_np:newRes .np=true:=rfl
theorem nr_tup (l:List DV):newRes (.tup l)=newRes.go l:=rfl
theorem ng_i (n:Int):newRes.go (.i n :: ds)=newRes.go ds:=by simp [newRes.go,DV.allNew]
theorem ng_w (n:BitVec 32):newRes.go (.w n :: ds)=newRes.go ds:=by simp [newRes.go,DV.allNew]
theorem ng_q (n:Nat):newRes.go (.q n :: ds)=newRes.go ds:=by simp [newRes.go,DV.allNew]
theorem ng_r (n:Int):newRes.go (.r n :: ds)=newRes.go ds:=by simp [newRes.go,DV.allNew]
theorem ng_b (n:Bool):newRes.go (.b n :: ds)=newRes.go ds:=by simp [newRes.go,DV.allNew]
theorem ng_s (n:List UInt8):newRes.go (.s n :: ds)=newRes.go ds:=by simp [newRes.go,DV.allNew]
theorem ng_fr (sz:Nat) (n:List DV):newRes.go (.fr sz n :: ds)=(allNewL n && newRes.go ds):=by simp [newRes.go]
theorem ng_nil:newRes.go []=true:=rfl
def oldO:Option (List DV)→Bool
 | some cs=>allOldL cs
 | none=>false
theorem oldO_some (cs:List DV):oldO (some cs)=allOldL cs:=rfl
theorem oa_nil:oldArgs ob []=true:=rfl
theorem oa_i (n:Int):oldArgs ob (.i n :: ds)=oldArgs ob ds:=rfl
theorem oa_adr (n:DV):oldArgs ob (.adr n :: ds)=false:=rfl
theorem oa_w (n:BitVec 32):oldArgs ob (.w n :: ds)=oldArgs ob ds:=rfl
theorem oa_q (n:Nat):oldArgs ob (.q n :: ds)=oldArgs ob ds:=rfl
theorem oa_r (n:Int):oldArgs ob (.r n :: ds)=oldArgs ob ds:=rfl
theorem oa_fn (f:Nat) (n:List DV):oldArgs ob (.fn f n :: ds)=(allOldL n && oldArgs ob ds):=rfl
theorem oa_y (n:Nat):oldArgs ob (.y n :: ds)=oldArgs ob ds:=rfl
theorem oa_b (n:Bool):oldArgs ob (.b n :: ds)=oldArgs ob ds:=rfl
theorem oa_s (n:List UInt8):oldArgs ob (.s n :: ds)=oldArgs ob ds:=rfl
theorem oa_st (n:List DV):oldArgs ob (.st n :: ds)=(allOldL n && oldArgs ob ds):=rfl
theorem oa_sl (p:Nat) (n:List DV):oldArgs ob (.sl p n :: ds)=((p == 0 && allOldL n) && oldArgs ob ds):=rfl
theorem oa_giv (k n:Nat):oldArgs ob (.giv k n :: ds)=false:=rfl
theorem oa_own (k n lo hi:Nat):oldArgs ob (.own k n lo hi :: ds)=false:=rfl
theorem oa_oad (k n lo hi:Nat):oldArgs ob (.oad k n lo hi :: ds)=(oldO (lookO ob k) && oldArgs ob ds):=by
 show (oldArg ob (.oad k n lo hi) && oldArgs ob ds)=_
 simp only [oldArg]
 cases lookO ob k <;> rfl
theorem oa_ref (c:DV):oldArgs ob (.ref c :: ds)=false:=rfl
theorem oa_nl:oldArgs ob (.nil :: ds)=oldArgs ob ds:=rfl
theorem al_nil:allOldL []=true:=rfl
theorem al_cons (d:DV):allOldL (d :: ds)=(d.allOld && allOldL ds):=rfl
theorem al_i (n:Int):(DV.i n).allOld=true:=rfl
theorem al_w (n:BitVec 32):(DV.w n).allOld=true:=rfl
theorem al_q (n:Nat):(DV.q n).allOld=true:=rfl
theorem al_r (n:Int):(DV.r n).allOld=true:=rfl
theorem al_fn (f:Nat) (n:List DV):(DV.fn f n).allOld=allOldL n:=rfl
theorem al_y (n:Nat):(DV.y n).allOld=true:=rfl
theorem al_b (n:Bool):(DV.b n).allOld=true:=rfl
theorem al_s (n:List UInt8):(DV.s n).allOld=true:=rfl
theorem al_st (n:List DV):(DV.st n).allOld=allOldL n:=rfl
theorem al_sl (p:Nat) (n:List DV):(DV.sl p n).allOld=(p == 0 && allOldL n):=rfl
end
theorem rd_free (Γ:Fns):∀ (ops:List LOp) (S:LS),runD Γ .free ops S=runL Γ ops S
 | [],S=>rfl
 | o :: os,S=>by
  simp only [runD,runL,okStep,if_true]
  cases stepL Γ o S <;> simp [rd_free Γ os]
theorem mo_nil:modeOf []=.free:=rfl
theorem mo_cons (o:LOp) (os:List LOp):modeOf (o :: os)=if o.k.isW=true then .strong else modeOf os:=by
 unfold modeOf
 rw [List.any_cons]
 cases o.k.isW <;> simp
def drK:Option LS→Option LS→Option LS
 | some S,_=>some S
 | none,b=>b
theorem drK_some (S:LS) (b:Option LS):drK (some S) b=some S:=rfl
theorem drK_none (b:Option LS):drK none b=b:=rfl
theorem drK_congr {r r':Option LS} (b:Option LS) (h:r=r'):drK r b=drK r' b:=by rw [h]
theorem rr_false (Γ:Fns) (ops:List LOp) (S:LS):runR Γ false ops S=runL Γ ops S:=rfl
def stoD:DV→List Nat
 | .oad k _ _ _=>[k]
 | _=>[]
theorem ro_eq (Γ:Fns) (ops:List LOp) (S:LS):runO Γ ops S=drK (runD Γ (modeOf ops) ops S) (drK (runD Γ .weak ops S) (drK (runD Γ (.foot (ownIds S.sl)) ops S) (drK (runD Γ (.foot (objIds S.sl)) ops S) (drK (runD Γ (.foot (oadIds S.sl)) ops S) (drK (runD Γ (.feed (oadIds S.sl) (objIds S.sl) (appT ops)) ops S) (drK (ifP (needN ops) (runD Γ (.foot (minusL (stoIds S.sl ops) (objIds S.sl))) ops S) (runD Γ (.late (objIds S.sl)) ops S)) (drK (runD Γ (.foot (madeIds ops)) ops S) (runD Γ (.foot (ownIds S.sl).tail) ops S)))))))):=by
 have e:ifP (needN ops) (runD Γ (.foot (minusL (stoIds S.sl ops) (objIds S.sl))) ops S) (runD Γ (.late (objIds S.sl)) ops S)=runD Γ (lateM ops S) ops S:=by
  unfold lateM
  cases needN ops <;> rfl
 rw [e]
 simp only [runO]
 cases runD Γ (modeOf ops) ops S with
 | some S1=>rfl
 | none =>
  cases runD Γ .weak ops S with
  | some S1=>rfl
  | none =>
   cases runD Γ (.foot (ownIds S.sl)) ops S with
   | some S1=>rfl
   | none =>
    cases runD Γ (.foot (objIds S.sl)) ops S with
    | some S1=>rfl
    | none=>cases runD Γ (.foot (oadIds S.sl)) ops S with
     | some S1=>rfl
     | none =>
      cases runD Γ (.feed (oadIds S.sl) (objIds S.sl) (appT ops)) ops S with
      | some S1=>rfl
      | none =>
       cases runD Γ (lateM ops S) ops S with
       | some S1=>rfl
       | none=>cases runD Γ (.foot (madeIds ops)) ops S <;> rfl

theorem rp_eq (Γ:Fns) (ops:List LOp) (S:LS):runP Γ ops S=drK (runD Γ (.pair []) ops S) (drK (runD Γ (.pair (ownIds S.sl)) ops S) (drK (runD Γ (.pair (objIds S.sl)) ops S) (drK (runD Γ (.pair (oadIds S.sl)) ops S) (drK (runD Γ (.pairf (oadIds S.sl) (objIds S.sl) (appT ops)) ops S) (runD Γ (.pair (madeIds ops)) ops S))))):=by
 simp only [runP]
 cases runD Γ (.pair []) ops S with
 | some S1=>rfl
 | none =>
  cases runD Γ (.pair (ownIds S.sl)) ops S with
  | some S1=>rfl
  | none =>
   cases runD Γ (.pair (objIds S.sl)) ops S with
   | some S1=>rfl
   | none =>
    cases runD Γ (.pair (oadIds S.sl)) ops S with
    | some S1=>rfl
    | none=>cases runD Γ (.pairf (oadIds S.sl) (objIds S.sl) (appT ops)) ops S <;> rfl
theorem rr_true (Γ:Fns) (ops:List LOp) (S:LS):runR Γ true ops S=ifP (needP ops) (runP Γ ops S) (ifP (needM ops) (runM Γ ops S) (runS Γ ops S)):=rfl
theorem rS_def (Γ:Fns) (ops:List LOp) (S:LS):runS Γ ops S=ifP (needB ops) (runD Γ (.ps (madeIds ops)) ops S) (runO Γ ops S):=rfl
theorem nb_def (ops:List LOp):needB ops=(needH 6 ops && (needH 4 ops && needG 2 ops)):=rfl
theorem ifP_t (x y:Option LS):ifP true x y=x:=rfl
theorem ifP_f (x y:Option LS):ifP false x y=y:=rfl
theorem ifP_congr {b b':Bool} (x y:Option LS) (h:b=b'):ifP b x y=ifP b' x y:=by rw [h]
theorem np_def (ops:List LOp):needP ops=(needG 1 ops && needG 2 ops && !(needH 3 ops && needH 4 ops && endC ops)):=rfl
theorem ec_nil:endC []=false:=rfl
theorem ec_cons (d:Option Nat) (k:K) (as:List Opd) (g:Option (Nat×Bool)) (os:List LOp):endC (⟨d,k,as,g⟩ :: os)=if k.tag=2 then endS os else endC os:=rfl
theorem es_nil:endS []=false:=rfl
theorem es_one (d:Option Nat) (k:K) (as:List Opd) (g:Option (Nat×Bool)):endS [⟨d,k,as,g⟩]=!k.isW:=rfl
theorem es_more (o p:LOp) (os:List LOp):endS (o :: p :: os)=false:=rfl
theorem nm_def (ops:List LOp):needM ops=((needH 3 ops && needH 4 ops && !chW none ops) || (needH 5 ops && needT ops)):=rfl
theorem cw_nil (p:Option Nat):chW p []=true:=rfl
theorem cw_cons (p:Option Nat) (d:Option Nat) (k:K) (as:List Opd) (g:Option (Nat×Bool)) (os:List LOp):chW p (⟨d,k,as,g⟩ :: os)=if k.isW=true then (if chD p as=true then chW d os else false) else chW p os:=rfl
theorem cd_none (as:List Opd):chD none as=true:=rfl
theorem cd_some (d:Nat) (as:List Opd):chD (some d) as=(argT as).contains d:=rfl
theorem nn_nil:needN []=false:=rfl
theorem nn_cons (d:Option Nat) (k:K) (as:List Opd) (g:Option (Nat×Bool)) (os:List LOp):needN (⟨d,k,as,g⟩ :: os)=if k.isStore=true then needS os else needN os:=rfl
theorem ns_nil:needS []=false:=rfl
theorem ns_cons (d:Option Nat) (k:K) (as:List Opd) (g:Option (Nat×Bool)) (os:List LOp):needS (⟨d,k,as,g⟩ :: os)=if k.isStore=true then true else needS os:=rfl
theorem si_nil (e:Env):stoIds e []=[]:=rfl
theorem si_cons (e:Env) (d:Option Nat) (k:K) (as:List Opd) (g:Option (Nat×Bool)) (os:List LOp):stoIds e (⟨d,k,as,g⟩ :: os)=if k.isStore=true then stoK e as++stoIds e os else stoIds e os:=rfl
theorem sk_t (e:Env) (n:Nat) (as:List Opd):stoK e (.t n :: as)=stoD (look e n):=by
 show (match look e n with | .oad k _ _ _=>[k] | _=>[])=stoD (look e n)
 cases look e n <;> rfl
theorem stod_oad (k n a o:Nat):stoD (.oad k n a o)=[k]:=rfl
theorem stod_own (k n a o:Nat):stoD (.own k n a o)=[]:=rfl
theorem stod_adr (d:DV):stoD (.adr d)=[]:=rfl
theorem stod_dead:stoD .dead=[]:=rfl
theorem ml_nil (M:List Nat):minusL M []=[]:=rfl
theorem ml_cons (M:List Nat) (k:Nat) (r:List Nat):minusL M (k :: r)=if M.contains k=true then minusL M r else k :: minusL M r:=rfl
theorem nt_nil:needT []=false:=rfl
theorem nt_cons (d:Option Nat) (k:K) (as:List Opd) (g:Option (Nat×Bool)) (os:List LOp):needT (⟨d,k,as,g⟩ :: os)=if k.tag=2 then needC os else needT os:=rfl
theorem nc_nil':needC []=false:=rfl
theorem nc_cons (d:Option Nat) (k:K) (as:List Opd) (g:Option (Nat×Bool)) (os:List LOp):needC (⟨d,k,as,g⟩ :: os)=if k.tag=2 then true else needC os:=rfl
theorem nh_nil (n:Nat):needH n []=false:=rfl
theorem nh_cons (n:Nat) (d:Option Nat) (k:K) (as:List Opd) (g:Option (Nat×Bool)) (os:List LOp):needH n (⟨d,k,as,g⟩ :: os)=if k.tagM (allC as)=n then true else needH n os:=rfl
theorem ng1_nil:needG 1 []=false:=rfl
theorem ng2_nil:needG 2 []=false:=rfl
theorem ng_gate (n:Nat) (d:Option Nat) (k:K) (as:List Opd) (p:Nat×Bool) (os:List LOp):needG n (⟨d,k,as,some p⟩ :: os)=if 0=n then true else needG n os:=rfl
theorem ng_gen (n:Nat) (d:Option Nat) (k:K) (as:List Opd) (os:List LOp):needG n (⟨d,k,as,none⟩ :: os)=if tagA k.tag (allC as)=n then true else needG n os:=rfl
theorem tgA_t (n:Nat):tagA n true=n:=rfl
theorem tgA_0 (b:Bool):tagA 0 b=0:=by cases b <;> rfl
theorem tgA_2 (b:Bool):tagA 2 b=2:=by cases b <;> rfl
theorem tgA_1:tagA 1 false=0:=rfl
theorem aC_nil:allC []=true:=rfl
theorem aC_c (d:DV) (r:List Opd):allC (.c d :: r)=allC r:=rfl
theorem aC_t (n:Nat) (r:List Opd):allC (.t n :: r)=false:=rfl
theorem effP_eff (fr:Nat→Bool) (k:K) (xs:List DV) (ob:OB):effP fr k xs ob=eff (fun _ _=>none) fr k xs ob:=by
 cases k with
 | call f id =>
  rw [eff_call]
  unfold callD
  cases lendArgs (mutB id) ob xs <;> rfl
 | calld id =>
  rw [eff_calld]
  show none=_
  cases h:calldD (fun _ _=>none) fr id xs ob with
  | none=>rfl
  | some r =>
   obtain ⟨f,cs,ys,rfl,hc,he⟩:=calldD_some h
   unfold callD at he
   split at he <;> cases he
 | callg f id =>
  rw [eff_callg]
  show none=_
  cases h:callgD (fun _ _=>none) fr f id xs ob with
  | none=>rfl
  | some r =>
   obtain ⟨ys,ob1,hg,he⟩:=callgD_some h
   unfold callD at he
   split at he <;> cases he
 | callm f ms id =>
  rw [eff_callm]
  unfold callD
  cases lendArgs (mutB id) ob (givAt ms 0 xs) <;> rfl
 | _=>rfl
def nxD (Γ:Fns) (os:List LOp) (e:Env) (d:Option Nat):Option (DV×OB)→Option LS
 | some (v,ob)=>runD Γ .strong os ⟨putD e d v,ob⟩
 | none=>none
theorem nxD_some (Γ:Fns) (os:List LOp) (e:Env) (d:Option Nat) (v:DV) (ob:OB):nxD Γ os e d (some (v,ob))=runD Γ .strong os ⟨putD e d v,ob⟩:=rfl
theorem nxD_none (Γ:Fns) (os:List LOp) (e:Env) (d:Option Nat):nxD Γ os e d none=none:=rfl
def oldV (x d:DV):Bool:=match x with
 | .own k _ _ _ | .oad k _ _ _=>d.mentions k
 | .tup _ | .giv ..=>false
 | _=>true
section
variable (d:DV)
theorem ov_i (n:Int):oldV (.i n) d=true:=rfl
theorem ov_w (n:BitVec 32):oldV (.w n) d=true:=rfl
theorem ov_q (n:Nat):oldV (.q n) d=true:=rfl
theorem ov_r (n:Int):oldV (.r n) d=true:=rfl
theorem ov_fn (f:Nat) (n:List DV):oldV (.fn f n) d=true:=rfl
theorem ov_y (n:Nat):oldV (.y n) d=true:=rfl
theorem ov_b (n:Bool):oldV (.b n) d=true:=rfl
theorem ov_s (n:List UInt8):oldV (.s n) d=true:=rfl
theorem ov_st (n:List DV):oldV (.st n) d=true:=rfl
theorem ov_sl (p:Nat) (n:List DV):oldV (.sl p n) d=true:=rfl
theorem ov_own (k n lo hi:Nat):oldV (.own k n lo hi) d=d.mentions k:=rfl
theorem ov_oad (k n lo hi:Nat):oldV (.oad k n lo hi) d=d.mentions k:=rfl
theorem ov_adr (n:DV):oldV (.adr n) d=true:=rfl
theorem ov_nil:oldV .nil d=true:=rfl
theorem ov_np:oldV .np d=true:=rfl
theorem ov_und:oldV .und d=true:=rfl
theorem ov_dead:oldV .dead d=true:=rfl
theorem ov_cel (a b:Nat):oldV (.cel a b) d=true:=rfl
theorem ov_tup (n:List DV):oldV (.tup n) d=false:=rfl
end
def oldN (e:Env) (dd:Option Nat) (r:Option (DV×OB)):Bool:=match dd,r with
 | some x,some (d,_)=>oldV (look e x) d
 | none,some _=>true
 | _,none=>false
theorem oldN_some (e:Env) (x:Nat) (d:DV) (ob:OB):oldN e (some x) (some (d,ob))=oldV (look e x) d:=rfl
theorem oldN_nil (e:Env) (d:DV) (ob:OB):oldN e none (some (d,ob))=true:=rfl
theorem oldN_none (e:Env) (dd:Option Nat):oldN e dd none=false:=by cases dd <;> rfl
def subO (e:Env) (args:List Opd):Option (DV×OB)→Bool
 | some (.own k _ _ _,_) | some (.oad k _ _ _,_)=>args.any fun | .t n=>(look e n).mentions k | .c _=>false
 | some (.tup ds,_)=>ds.all DV.noM
 | some (.giv ..,_) | none=>false
 | _=>true
section
variable (e:Env) (args:List Opd) (ob:OB)
theorem so_none:subO e args none=false:=rfl
theorem so_tup (ds:List DV):subO e args (some (.tup ds,ob))=ds.all DV.noM:=rfl
theorem so_i (n:Int):subO e args (some (.i n,ob))=true:=rfl
theorem so_w (n:BitVec 32):subO e args (some (.w n,ob))=true:=rfl
theorem so_q (n:Nat):subO e args (some (.q n,ob))=true:=rfl
theorem so_r (n:Int):subO e args (some (.r n,ob))=true:=rfl
theorem so_fn (f:Nat) (n:List DV):subO e args (some (.fn f n,ob))=true:=rfl
theorem so_y (n:Nat):subO e args (some (.y n,ob))=true:=rfl
theorem so_b (n:Bool):subO e args (some (.b n,ob))=true:=rfl
theorem so_s (n:List UInt8):subO e args (some (.s n,ob))=true:=rfl
theorem so_st (n:List DV):subO e args (some (.st n,ob))=true:=rfl
theorem so_sl (p:Nat) (n:List DV):subO e args (some (.sl p n,ob))=true:=rfl
theorem so_adr (d:DV):subO e args (some (.adr d,ob))=true:=rfl
theorem so_nil:subO e args (some (.nil,ob))=true:=rfl
theorem so_np:subO e args (some (.np,ob))=true:=rfl
theorem so_und:subO e args (some (.und,ob))=true:=rfl
theorem so_dead:subO e args (some (.dead,ob))=true:=rfl
theorem so_cel (a b:Nat):subO e args (some (.cel a b,ob))=true:=rfl
def anyM (e:Env) (k:Nat):List Opd→Bool
 | []=>false
 | .t n :: r=>(look e n).mentions k || anyM e k r
 | .c _ :: r=>anyM e k r
theorem anyM_nil (k:Nat):anyM e k []=false:=rfl
theorem anyM_t (k n:Nat) (r:List Opd):anyM e k (.t n :: r)=((look e n).mentions k || anyM e k r):=rfl
theorem anyM_c (k:Nat) (d:DV) (r:List Opd):anyM e k (.c d :: r)=anyM e k r:=rfl
theorem anyM_any (k:Nat):∀ args:List Opd,(args.any fun | .t n=>(look e n).mentions k | .c _=>false)=anyM e k args
 | []=>rfl
 | .t n :: r=>by rw [List.any_cons,anyM_any k r]; rfl
 | .c d :: r=>by rw [List.any_cons,anyM_any k r]; rfl
theorem so_own (k n lo hi:Nat):subO e args (some (.own k n lo hi,ob))=anyM e k args:=anyM_any e k args
theorem so_oad (k n lo hi:Nat):subO e args (some (.oad k n lo hi,ob))=anyM e k args:=anyM_any e k args
end
theorem quiet_go (dd:Option Nat) (k:K) (args:List Opd) (g:Option (Nat×Bool)) (e:Env) (ob:OB):quietGo ⟨dd,k,args,g⟩ ⟨e,ob⟩=(subO e args (eff (fun _ _=>none) (fun _=>false) k (args.map (opv e)) []) && oldN e dd (eff (fun _ _=>none) (fun _=>false) k (args.map (opv e)) [])):=by
 have:(args.map (LS.get ⟨e,ob⟩))=args.map (opv e):=by
  apply List.map_congr_left
  intro a _
  cases a <;> rfl
 unfold quietGo
 simp only [this,effP_eff]
 cases eff (fun _ _=>none) (fun _=>false) k (args.map (opv e)) [] with
 | none=>rfl
 | some p =>
  obtain ⟨d,ob1⟩:=p
  have h1:subM ⟨e,ob⟩ args d=subO e args (some (d,ob1)):=by cases d <;> rfl
  have h2:oldOk ⟨dd,k,args,g⟩ ⟨e,ob⟩ d=oldN e dd (some (d,ob1)):=by cases dd <;> rfl
  simp only [h1,h2]
section
variable (Γ:Fns) (os:List LOp) (e:Env) (ob:OB)
theorem rd_nil (S:LS):runD Γ .strong [] S=some S:=rfl
theorem rd_gen (dd:Option Nat) (k:K) (args:List Opd):runD Γ .strong (⟨dd,k,args,none⟩ :: os) ⟨e,ob⟩ =
  if k.isW=true∨(subO e args (eff (fun _ _=>none) (fun _=>false) k (args.map (opv e)) []) && oldN e dd (eff (fun _ _=>none) (fun _=>false) k (args.map (opv e)) []))=true then nxD Γ os e dd (eff Γ (frOf e) k (args.map (opv e)) ob) else none:=by
 have h1:(args.map (LS.get ⟨e,ob⟩))=args.map (opv e):=by
  apply List.map_congr_left
  intro a _
  cases a <;> rfl
 have hf:(fun id=>!(id % 8 == 7) && !Env.mentions id e)=frOf e:=rfl
 simp only [runD,stepL,h1,hf,okStep,quiet,quiet_go,Bool.or_eq_true]
 split
 ·cases eff Γ (frOf e) k (args.map (opv e)) ob <;> rfl
 ·rfl
theorem rd_mv (d n:Nat):runD Γ .strong (⟨some d,.mv,[.t n],none⟩ :: os) ⟨e,ob⟩=if ((match look e n with | .tup ds=>ds.all DV.noM | .giv ..=>false | _=>true) && oldV (look e d) (look e n))=true then runD Γ .strong os ⟨put e d (look e n),ob⟩ else none:=by
 rw [rd_gen]
 have:subO e [.t n] (eff (fun _ _=>none) (fun _=>false) .mv ([Opd.t n].map (opv e)) [])=(match look e n with | .tup ds=>ds.all DV.noM | .giv ..=>false | _=>true):=by
  show subO e [.t n] (some (look e n,[]))=_
  cases h:look e n <;> try rfl
  ·rw [so_own]; simp [anyM_t,h,mm_own]
  ·rw [so_oad]; simp [anyM_t,h,mm_oad]
 rw [this]
 simp only [K.isW,Bool.false_eq_true,false_or]
 rfl
theorem rd_gate (d:Nat) (k:K) (args:List Opd) (t:Nat) (w:Bool):runD Γ .strong (⟨some d,k,args,some (t,w)⟩ :: os) ⟨e,ob⟩=gate (look e t) w (runD Γ .strong (⟨some d,k,args,none⟩ :: os) ⟨e,ob⟩) (if k.isW=true∨oldV (look e d) .und=true then runD Γ .strong os ⟨put e d .und,ob⟩ else none):=by
 simp only [runD,stepL,gate,okStep,quiet,quiet_go]
 cases look e t with
 | b x =>
  by_cases h:x=w
  ·subst h
   simp only [if_true]
  ·simp only [if_neg h,putD,Bool.or_eq_true]
   rfl
 | und=>simp only [Bool.or_eq_true,putD]; rfl
 | _=>simp
end
def nxW (Γ:Fns) (os:List LOp) (e:Env) (d:Option Nat):Option (DV×OB)→Option LS
 | some (v,ob)=>runD Γ .weak os ⟨putD e d v,ob⟩
 | none=>none
theorem nxW_some (Γ:Fns) (os:List LOp) (e:Env) (d:Option Nat) (v:DV) (ob:OB):nxW Γ os e d (some (v,ob))=runD Γ .weak os ⟨putD e d v,ob⟩:=rfl
theorem nxW_none (Γ:Fns) (os:List LOp) (e:Env) (d:Option Nat):nxW Γ os e d none=none:=rfl
theorem wquiet_go (dd:Option Nat) (k:K) (args:List Opd) (g:Option (Nat×Bool)) (e:Env) (ob:OB):wquietGo ⟨dd,k,args,g⟩ ⟨e,ob⟩=(subO e args (eff (fun _ _=>none) (fun _=>false) k (args.map (opv e)) ob) && oldN e dd (eff (fun _ _=>none) (fun _=>false) k (args.map (opv e)) ob)):=by
 have:(args.map (LS.get ⟨e,ob⟩))=args.map (opv e):=by
  apply List.map_congr_left
  intro a _
  cases a <;> rfl
 unfold wquietGo
 simp only [this,effP_eff]
 cases eff (fun _ _=>none) (fun _=>false) k (args.map (opv e)) ob with
 | none=>rfl
 | some p =>
  obtain ⟨d,ob1⟩:=p
  have h1:subM ⟨e,ob⟩ args d=subO e args (some (d,ob1)):=by cases d <;> rfl
  have h2:oldOk ⟨dd,k,args,g⟩ ⟨e,ob⟩ d=oldN e dd (some (d,ob1)):=by cases dd <;> rfl
  simp only [h1,h2]
section
variable (Γ:Fns) (os:List LOp) (e:Env) (ob:OB)
theorem rw_nil (S:LS):runD Γ .weak [] S=some S:=rfl
theorem rw_gen (dd:Option Nat) (k:K) (args:List Opd):runD Γ .weak (⟨dd,k,args,none⟩ :: os) ⟨e,ob⟩ =
  if (if k.isW=true then addsK k (args.map (opv e)) else (subO e args (eff (fun _ _=>none) (fun _=>false) k (args.map (opv e)) ob) && oldN e dd (eff (fun _ _=>none) (fun _=>false) k (args.map (opv e)) ob)))=true then nxW Γ os e dd (eff Γ (frOf e) k (args.map (opv e)) ob) else none:=by
 have h1:(args.map (LS.get ⟨e,ob⟩))=args.map (opv e):=by
  apply List.map_congr_left
  intro a _
  cases a <;> rfl
 have hf:(fun id=>!(id % 8 == 7) && !Env.mentions id e)=frOf e:=rfl
 simp only [runD,stepL,h1,hf,okStep,adds,wquiet,wquiet_go]
 generalize eff Γ (frOf e) k (args.map (opv e)) ob=r
 cases r <;> rfl
theorem rw_gate (d:Nat) (k:K) (args:List Opd) (t:Nat) (w:Bool):runD Γ .weak (⟨some d,k,args,some (t,w)⟩ :: os) ⟨e,ob⟩=gate (look e t) w (runD Γ .weak (⟨some d,k,args,none⟩ :: os) ⟨e,ob⟩) (if k.isW=true∨oldV (look e d) .und=true then runD Γ .weak os ⟨put e d .und,ob⟩ else none):=by
 have h1:(args.map (LS.get ⟨e,ob⟩))=args.map (opv e):=by
  apply List.map_congr_left
  intro a _
  cases a <;> rfl
 have ho:oldOk ⟨some d,k,args,some (t,w)⟩ ⟨e,ob⟩ .und=oldV (look e d) .und:=rfl
 simp only [runD,stepL,gate,okStep,adds,wquiet,wquiet_go,ho]
 cases look e t with
 | b x =>
  by_cases h:x=w
  ·subst h
   simp only [if_true]
  ·simp only [if_neg h,putD]
   cases k.isW <;> cases oldV (look e d) .und <;> simp
 | und=>cases k.isW <;> cases oldV (look e d) .und <;> simp [putD]
 | _=>simp
end
def renL (t id:Nat) (e:Env) (ob:OB):DV→Option LS
 | .own k n lo hi=>if k=id then some ⟨e,ob⟩ else match lookO ob k with
   | some es=>if k % 8≠7∧id % 8≠7∧k % 8≠5∧id % 8≠5∧(k % 8=6→id % 8=6)∧szId k=szId id∧es.length=n∧Env.mentions id e=false then
     some ⟨put e t (.own id n lo hi),putO (dropO ob k) id es⟩ else none
   | none=>none
 | _=>some ⟨e,ob⟩
theorem ren_own (t id:Nat) (e:Env) (ob:OB) (k n lo hi:Nat):renL t id e ob (.own k n lo hi)=if k=id then some ⟨e,ob⟩ else match lookO ob k with
   | some es=>if k % 8≠7∧id % 8≠7∧k % 8≠5∧id % 8≠5∧(k % 8=6→id % 8=6)∧szId k=szId id∧es.length=n∧Env.mentions id e=false then
     some ⟨put e t (.own id n lo hi),putO (dropO ob k) id es⟩ else none
   | none=>none:=rfl
def nxF (Γ:Fns) (L:List Nat) (os:List LOp) (e:Env) (d:Option Nat):Option (DV×OB)→Option LS
 | some (v,ob)=>runD Γ (.foot L) os ⟨putD e d v,ob⟩
 | none=>none
theorem nxF_some (Γ:Fns) (L:List Nat) (os:List LOp) (e:Env) (d:Option Nat) (v:DV) (ob:OB):nxF Γ L os e d (some (v,ob))=runD Γ (.foot L) os ⟨putD e d v,ob⟩:=rfl
theorem nxF_none (Γ:Fns) (L:List Nat) (os:List LOp) (e:Env) (d:Option Nat):nxF Γ L os e d none=none:=rfl
theorem nxF_congr (Γ:Fns) (L:List Nat) (os:List LOp) (d:Option Nat) {e e':Env} {r r':Option (DV×OB)} (he:e=e') (h:r=r'):nxF Γ L os e d r=nxF Γ L os e' d r':=by rw [he,h]
section
variable (Γ:Fns) (L:List Nat) (os:List LOp) (e:Env) (ob:OB)
theorem rf_nil (S:LS):runD Γ (.foot L) [] S=some S:=rfl
theorem rf_gen (dd:Option Nat) (k:K) (args:List Opd):runD Γ (.foot L) (⟨dd,k,args,none⟩ :: os) ⟨e,ob⟩ =
  if (if k.isW=true then clearL L (hitK k (args.map (opv e))) else (subO e args (eff (fun _ _=>none) (fun _=>false) k (args.map (opv e)) []) && oldN e dd (eff (fun _ _=>none) (fun _=>false) k (args.map (opv e)) [])) ||
   ((subO e args (eff (fun _ _=>none) (fun _=>false) k (args.map (opv e)) ob) && oldN e dd (eff (fun _ _=>none) (fun _=>false) k (args.map (opv e)) ob)) && argsIn L (args.map (opv e))))=true then nxF Γ L os e dd (eff Γ (frOf e) k (args.map (opv e)) ob) else none:=by
 have h1:(args.map (LS.get ⟨e,ob⟩))=args.map (opv e):=by
  apply List.map_congr_left
  intro a _
  cases a <;> rfl
 have hf:(fun id=>!(id % 8 == 7) && !Env.mentions id e)=frOf e:=rfl
 simp only [runD,stepL,h1,hf,okStep,clears,quiet,quiet_go,wquiet,wquiet_go]
 generalize eff Γ (frOf e) k (args.map (opv e)) ob=r
 cases r <;> rfl
theorem rf_gate (d:Nat) (k:K) (args:List Opd) (t:Nat) (w:Bool):runD Γ (.foot L) (⟨some d,k,args,some (t,w)⟩ :: os) ⟨e,ob⟩=gate (look e t) w (runD Γ (.foot L) (⟨some d,k,args,none⟩ :: os) ⟨e,ob⟩) (if k.isW=true∨oldV (look e d) .und=true then runD Γ (.foot L) os ⟨put e d .und,ob⟩ else none):=by
 have h1:(args.map (LS.get ⟨e,ob⟩))=args.map (opv e):=by
  apply List.map_congr_left
  intro a _
  cases a <;> rfl
 have ho:oldOk ⟨some d,k,args,some (t,w)⟩ ⟨e,ob⟩ .und=oldV (look e d) .und:=rfl
 simp only [runD,stepL,gate,okStep,clears,quiet,quiet_go,wquiet,wquiet_go,ho]
 cases look e t with
 | b x =>
  by_cases h:x=w
  ·subst h
   simp only [if_true]
  ·simp only [if_neg h,putD]
   cases k.isW <;> cases oldV (look e d) .und <;> simp
 | und=>cases k.isW <;> cases oldV (look e d) .und <;> simp [putD]
 | _=>simp
end
def nxT (Γ:Fns) (L:List Nat) (os:List LOp) (e:Env) (d:Option Nat):Option (DV×OB)→Option LS
 | some (v,ob)=>runD Γ (.late L) os ⟨putD e d v,ob⟩
 | none=>none
theorem nxT_some (Γ:Fns) (L:List Nat) (os:List LOp) (e:Env) (d:Option Nat) (v:DV) (ob:OB):nxT Γ L os e d (some (v,ob))=runD Γ (.late L) os ⟨putD e d v,ob⟩:=rfl
theorem nxT_none (Γ:Fns) (L:List Nat) (os:List LOp) (e:Env) (d:Option Nat):nxT Γ L os e d none=none:=rfl
theorem nxT_congr (Γ:Fns) (L:List Nat) (os:List LOp) (d:Option Nat) {e e':Env} {r r':Option (DV×OB)} (he:e=e') (h:r=r'):nxT Γ L os e d r=nxT Γ L os e' d r':=by rw [he,h]
section
variable (Γ:Fns) (L:List Nat) (os:List LOp) (e:Env) (ob:OB)
theorem rt_nil (S:LS):runD Γ (.late L) [] S=some S:=rfl
theorem rt_gen (dd:Option Nat) (k:K) (args:List Opd):runD Γ (.late L) (⟨dd,k,args,none⟩ :: os) ⟨e,ob⟩ =
  if (if k.isW=true then (if k.isStore=true then (ownKs (args.map (opv e))).isEmpty else clearL L (hitK k (args.map (opv e)))) else (subO e args (eff (fun _ _=>none) (fun _=>false) k (args.map (opv e)) []) && oldN e dd (eff (fun _ _=>none) (fun _=>false) k (args.map (opv e)) [])) ||
   ((subO e args (eff (fun _ _=>none) (fun _=>false) k (args.map (opv e)) ob) && oldN e dd (eff (fun _ _=>none) (fun _=>false) k (args.map (opv e)) ob)) && argsIn L (args.map (opv e))))=true then nxT Γ L os e dd (eff Γ (frOf e) k (args.map (opv e)) ob) else none:=by
 have h1:(args.map (LS.get ⟨e,ob⟩))=args.map (opv e):=by
  apply List.map_congr_left
  intro a _
  cases a <;> rfl
 have hf:(fun id=>!(id % 8 == 7) && !Env.mentions id e)=frOf e:=rfl
 simp only [runD,stepL,h1,hf,okStep,clears,quiet,quiet_go,wquiet,wquiet_go]
 generalize eff Γ (frOf e) k (args.map (opv e)) ob=r
 cases r <;> rfl
theorem rt_gate (d:Nat) (k:K) (args:List Opd) (t:Nat) (w:Bool):runD Γ (.late L) (⟨some d,k,args,some (t,w)⟩ :: os) ⟨e,ob⟩=gate (look e t) w (runD Γ (.late L) (⟨some d,k,args,none⟩ :: os) ⟨e,ob⟩) (if (if k.isW=true then (if k.isStore=true then (ownKs (args.map (opv e))).isEmpty else true) else oldV (look e d) .und)=true then runD Γ (.late L) os ⟨put e d .und,ob⟩ else none):=by
 have h1:(args.map (LS.get ⟨e,ob⟩))=args.map (opv e):=by
  apply List.map_congr_left
  intro a _
  cases a <;> rfl
 have ho:oldOk ⟨some d,k,args,some (t,w)⟩ ⟨e,ob⟩ .und=oldV (look e d) .und:=rfl
 simp only [runD,stepL,gate,okStep,clears,quiet,quiet_go,wquiet,wquiet_go,ho,h1]
 cases look e t with
 | b x =>
  by_cases h:x=w
  ·subst h
   simp only [if_true]
  ·simp only [if_neg h,putD]
   cases k.isW <;> cases k.isStore <;> cases oldV (look e d) .und <;> simp
 | und=>cases k.isW <;> cases k.isStore <;> cases oldV (look e d) .und <;> simp [putD]
 | _=>simp
end
def nxG (Γ:Fns) (L1 L2 F:List Nat) (os:List LOp) (e:Env) (d:Option Nat):Option (DV×OB)→Option LS
 | some (v,ob)=>runD Γ (.feed L1 L2 F) os ⟨putD e d v,ob⟩
 | none=>none
theorem nxG_some (Γ:Fns) (L1 L2 F:List Nat) (os:List LOp) (e:Env) (d:Option Nat) (v:DV) (ob:OB):nxG Γ L1 L2 F os e d (some (v,ob))=runD Γ (.feed L1 L2 F) os ⟨putD e d v,ob⟩:=rfl
theorem nxG_none (Γ:Fns) (L1 L2 F:List Nat) (os:List LOp) (e:Env) (d:Option Nat):nxG Γ L1 L2 F os e d none=none:=rfl
theorem nxG_congr (Γ:Fns) (L1 L2 F:List Nat) (os:List LOp) (d:Option Nat) {e e':Env} {r r':Option (DV×OB)} (he:e=e') (h:r=r'):nxG Γ L1 L2 F os e d r=nxG Γ L1 L2 F os e' d r':=by rw [he,h]
section
variable (Γ:Fns) (L1 L2 F:List Nat) (os:List LOp) (e:Env) (ob:OB)
theorem rg_nil (S:LS):runD Γ (.feed L1 L2 F) [] S=some S:=rfl
theorem rg_gen (dd:Option Nat) (k:K) (args:List Opd):runD Γ (.feed L1 L2 F) (⟨dd,k,args,none⟩ :: os) ⟨e,ob⟩ =
  if (if k.isW=true then (if k.isApp=true then clearL L1 (hitK k (args.map (opv e))) && allIn F (argT args) else clearL L2 (hitK k (args.map (opv e)))) else (subO e args (eff (fun _ _=>none) (fun _=>false) k (args.map (opv e)) []) && oldN e dd (eff (fun _ _=>none) (fun _=>false) k (args.map (opv e)) [])) ||
   ((subO e args (eff (fun _ _=>none) (fun _=>false) k (args.map (opv e)) ob) && oldN e dd (eff (fun _ _=>none) (fun _=>false) k (args.map (opv e)) ob)) && (argsIn L2 (args.map (opv e)) && (argsIn L1 (args.map (opv e)) || dstIn F dd))))=true then nxG Γ L1 L2 F os e dd (eff Γ (frOf e) k (args.map (opv e)) ob) else none:=by
 have h1:(args.map (LS.get ⟨e,ob⟩))=args.map (opv e):=by
  apply List.map_congr_left
  intro a _
  cases a <;> rfl
 have hf:(fun id=>!(id % 8 == 7) && !Env.mentions id e)=frOf e:=rfl
 simp only [runD,stepL,h1,hf,okStep,clears,quiet,quiet_go,wquiet,wquiet_go]
 generalize eff Γ (frOf e) k (args.map (opv e)) ob=r
 cases r <;> rfl
theorem rg_gate (d:Nat) (k:K) (args:List Opd) (t:Nat) (w:Bool):runD Γ (.feed L1 L2 F) (⟨some d,k,args,some (t,w)⟩ :: os) ⟨e,ob⟩=gate (look e t) w (runD Γ (.feed L1 L2 F) (⟨some d,k,args,none⟩ :: os) ⟨e,ob⟩) (if (if k.isW=true then (if k.isApp=true then allIn F (argT args) else true) else oldV (look e d) .und)=true then runD Γ (.feed L1 L2 F) os ⟨put e d .und,ob⟩ else none):=by
 have h1:(args.map (LS.get ⟨e,ob⟩))=args.map (opv e):=by
  apply List.map_congr_left
  intro a _
  cases a <;> rfl
 have ho:oldOk ⟨some d,k,args,some (t,w)⟩ ⟨e,ob⟩ .und=oldV (look e d) .und:=rfl
 simp only [runD,stepL,gate,okStep,clears,quiet,quiet_go,wquiet,wquiet_go,ho]
 cases look e t with
 | b x =>
  by_cases h:x=w
  ·subst h
   simp only [if_true]
  ·simp only [if_neg h,putD]
   cases k.isW <;> cases k.isApp <;> cases oldV (look e d) .und <;> cases allIn F (argT args) <;> simp
 | und=>cases k.isW <;> cases k.isApp <;> cases oldV (look e d) .und <;> cases allIn F (argT args) <;> simp [putD]
 | _=>simp
end
def plainN (e:Env):Option Nat→Bool
 | some x=>(look e x).noM
 | none=>true
theorem pl_none (e:Env):plainN e none=true:=rfl
theorem pl_some (e:Env) (x:Nat):plainN e (some x)=(look e x).noM:=rfl
def nxP (Γ:Fns) (L:List Nat) (os:List LOp) (e:Env) (d:Option Nat):Option (DV×OB)→Option LS
 | some (v,ob)=>runD Γ (.pair L) os ⟨putD e d v,ob⟩
 | none=>none
theorem nxP_some (Γ:Fns) (L:List Nat) (os:List LOp) (e:Env) (d:Option Nat) (v:DV) (ob:OB):nxP Γ L os e d (some (v,ob))=runD Γ (.pair L) os ⟨putD e d v,ob⟩:=rfl
theorem nxP_none (Γ:Fns) (L:List Nat) (os:List LOp) (e:Env) (d:Option Nat):nxP Γ L os e d none=none:=rfl
theorem nxP_congr (Γ:Fns) (L:List Nat) (os:List LOp) (d:Option Nat) {e e':Env} {r r':Option (DV×OB)} (he:e=e') (h:r=r'):nxP Γ L os e d r=nxP Γ L os e' d r':=by rw [he,h]
section
variable (Γ:Fns) (L:List Nat) (os:List LOp) (e:Env) (ob:OB)
theorem rq_nil (S:LS):runD Γ (.pair L) [] S=some S:=rfl
theorem rq_gen (dd:Option Nat) (k:K) (args:List Opd):runD Γ (.pair L) (⟨dd,k,args,none⟩ :: os) ⟨e,ob⟩ =
  if (if k.isW=true then clearL L (hitK k (args.map (opv e))) && plainN e dd else (subO e args (eff (fun _ _=>none) (fun _=>false) k (args.map (opv e)) []) && oldN e dd (eff (fun _ _=>none) (fun _=>false) k (args.map (opv e)) [])) ||
   ((subO e args (eff (fun _ _=>none) (fun _=>false) k (args.map (opv e)) ob) && oldN e dd (eff (fun _ _=>none) (fun _=>false) k (args.map (opv e)) ob)) && argsIn L (args.map (opv e))))=true then nxP Γ L os e dd (eff Γ (frOf e) k (args.map (opv e)) ob) else none:=by
 have h1:(args.map (LS.get ⟨e,ob⟩))=args.map (opv e):=by
  apply List.map_congr_left
  intro a _
  cases a <;> rfl
 have hf:(fun id=>!(id % 8 == 7) && !Env.mentions id e)=frOf e:=rfl
 have hp:plainDst ⟨dd,k,args,none⟩ ⟨e,ob⟩=plainN e dd:=by cases dd <;> rfl
 simp only [runD,stepL,h1,hf,hp,okStep,clears,quiet,quiet_go,wquiet,wquiet_go]
 generalize eff Γ (frOf e) k (args.map (opv e)) ob=r
 cases r <;> rfl
theorem rq_gate (d:Nat) (k:K) (args:List Opd) (t:Nat) (w:Bool):runD Γ (.pair L) (⟨some d,k,args,some (t,w)⟩ :: os) ⟨e,ob⟩=gate (look e t) w (runD Γ (.pair L) (⟨some d,k,args,none⟩ :: os) ⟨e,ob⟩) (if (if k.isW=true then (look e d).noM else oldV (look e d) .und)=true then runD Γ (.pair L) os ⟨put e d .und,ob⟩ else none):=by
 have h1:(args.map (LS.get ⟨e,ob⟩))=args.map (opv e):=by
  apply List.map_congr_left
  intro a _
  cases a <;> rfl
 have ho:oldOk ⟨some d,k,args,some (t,w)⟩ ⟨e,ob⟩ .und=oldV (look e d) .und:=rfl
 have hp:plainDst ⟨some d,k,args,some (t,w)⟩ ⟨e,ob⟩=(look e d).noM:=rfl
 have hp2:plainDst ⟨some d,k,args,none⟩ ⟨e,ob⟩=(look e d).noM:=rfl
 simp only [runD,stepL,gate,okStep,clears,quiet,quiet_go,wquiet,wquiet_go,ho,hp,hp2]
 cases look e t with
 | b x =>
  by_cases h:x=w
  ·subst h
   simp only [if_true]
  ·simp only [if_neg h,putD]
   cases k.isW <;> cases (look e d).noM <;> cases oldV (look e d) .und <;> simp
 | und=>cases k.isW <;> cases (look e d).noM <;> cases oldV (look e d) .und <;> simp [putD]
 | _=>simp
end
def nxZ (Γ:Fns) (L:List Nat) (os:List LOp) (e:Env) (d:Option Nat):Option (DV×OB)→Option LS
 | some (v,ob)=>runD Γ (.ps L) os ⟨putD e d v,ob⟩
 | none=>none
theorem nxZ_some (Γ:Fns) (L:List Nat) (os:List LOp) (e:Env) (d:Option Nat) (v:DV) (ob:OB):nxZ Γ L os e d (some (v,ob))=runD Γ (.ps L) os ⟨putD e d v,ob⟩:=rfl
theorem nxZ_none (Γ:Fns) (L:List Nat) (os:List LOp) (e:Env) (d:Option Nat):nxZ Γ L os e d none=none:=rfl
theorem nxZ_congr (Γ:Fns) (L:List Nat) (os:List LOp) (d:Option Nat) {e e':Env} {r r':Option (DV×OB)} (he:e=e') (h:r=r'):nxZ Γ L os e d r=nxZ Γ L os e' d r':=by rw [he,h]
section
variable (Γ:Fns) (L:List Nat) (os:List LOp) (e:Env) (ob:OB)
theorem rz_nil (S:LS):runD Γ (.ps L) [] S=some S:=rfl
theorem rz_gen (dd:Option Nat) (k:K) (args:List Opd):runD Γ (.ps L) (⟨dd,k,args,none⟩ :: os) ⟨e,ob⟩ =
  if (if k.isW=true then clearL L (hitK k (args.map (opv e))) && (plainN e dd && scalA k (args.map (opv e))) else (subO e args (eff (fun _ _=>none) (fun _=>false) k (args.map (opv e)) []) && oldN e dd (eff (fun _ _=>none) (fun _=>false) k (args.map (opv e)) [])) ||
   ((subO e args (eff (fun _ _=>none) (fun _=>false) k (args.map (opv e)) ob) && oldN e dd (eff (fun _ _=>none) (fun _=>false) k (args.map (opv e)) ob)) && argsIn L (args.map (opv e))))=true then nxZ Γ L os e dd (eff Γ (frOf e) k (args.map (opv e)) ob) else none:=by
 have h1:(args.map (LS.get ⟨e,ob⟩))=args.map (opv e):=by
  apply List.map_congr_left
  intro a _
  cases a <;> rfl
 have hf:(fun id=>!(id % 8 == 7) && !Env.mentions id e)=frOf e:=rfl
 have hp:plainDst ⟨dd,k,args,none⟩ ⟨e,ob⟩=plainN e dd:=by cases dd <;> rfl
 simp only [runD,stepL,h1,hf,hp,okStep,clears,quiet,quiet_go,wquiet,wquiet_go]
 generalize eff Γ (frOf e) k (args.map (opv e)) ob=r
 cases r <;> rfl
end
theorem tm_mv (bb:Bool):K.tagM .mv bb=0:=rfl
theorem tm_newnil (id:Nat) (bb:Bool):K.tagM (.newnil id) bb=0:=rfl
theorem tm_pick (bb:Bool):K.tagM .pick bb=0:=rfl
theorem tm_bin (op:BinOp) (bb:Bool):K.tagM (.bin op) bb=0:=rfl
theorem tm_eqb (g:Bool) (bb:Bool):K.tagM (.eqb g) bb=0:=rfl
theorem tm_eqs (g:Bool) (n:Nat) (bb:Bool):K.tagM (.eqs g n) bb=0:=rfl
theorem tm_un (op:UnOp) (bb:Bool):K.tagM (.un op) bb=0:=rfl
theorem tm_len (bb:Bool):K.tagM .len bb=0:=rfl
theorem tm_lens (bb:Bool):K.tagM .lens bb=0:=rfl
theorem tm_chk (bb:Bool):K.tagM .chk bb=0:=rfl
theorem tm_fld (a b:Nat) (g:Bool) (bb:Bool):K.tagM (.fld a b g) bb=0:=rfl
theorem tm_fldv (a b:Nat) (g:Bool) (bb:Bool):K.tagM (.fldv a b g) bb=0:=rfl
theorem tm_idxa (a:Nat) (bb:Bool):K.tagM (.idxa a) bb=0:=rfl
theorem tm_idx (bb:Bool):K.tagM .idx bb=0:=rfl
theorem tm_load (a:Nat) (g:Bool) (bb:Bool):K.tagM (.load a g) bb=0:=rfl
theorem tm_store (a:Nat) (bb:Bool):K.tagM (.store a) bb=0:=rfl
theorem tm_slice (l h:Bool) (a:Nat) (bb:Bool):K.tagM (.slice l h a) bb=0:=rfl
theorem tm_slices (l h:Bool) (bb:Bool):K.tagM (.slices l h) bb=0:=rfl
theorem tm_make (a c:Nat) (z:DV) (bb:Bool):K.tagM (.make a c z) bb=0:=rfl
theorem tm_alloc (a:Nat) (z:DV) (bb:Bool):K.tagM (.alloc a z) bb=0:=rfl
theorem tm_box (a:Nat) (bb:Bool):K.tagM (.box a) bb=0:=rfl
theorem tm_build (z:List DV) (p:List (Nat×Nat)) (bb:Bool):K.tagM (.build z p) bb=0:=rfl
theorem tm_app (a c:Nat) (bb:Bool):K.tagM (.app a c) bb=0:=rfl
theorem tm_conv (v:Cv) (a:Nat) (bb:Bool):K.tagM (.conv v a) bb=v.tagM:=rfl
theorem tv_b2i:Cv.tagM .b2i=0:=rfl
theorem tv_i2b:Cv.tagM .i2b=0:=rfl
theorem tv_i2i:Cv.tagM .i2i=0:=rfl
theorem tv_s2b:Cv.tagM .s2b=0:=rfl
theorem tv_b2s:Cv.tagM .b2s=6:=rfl
theorem tv_same:Cv.tagM .same=0:=rfl
theorem tv_i2r:Cv.tagM .i2r=0:=rfl
theorem tv_r2s:Cv.tagM .r2s=0:=rfl
theorem tv_i2q:Cv.tagM .i2q=0:=rfl
theorem tv_q2i:Cv.tagM .q2i=0:=rfl
theorem tv_q2q:Cv.tagM .q2q=0:=rfl
theorem tm_ext (a:Nat) (bb:Bool):K.tagM (.ext a) bb=0:=rfl
theorem tm_call (a c:Nat) (bb:Bool):K.tagM (.call a c) bb=0:=rfl
theorem tm_calld (a:Nat) (bb:Bool):K.tagM (.calld a) bb=0:=rfl
theorem tm_mkfn (a:Nat) (bb:Bool):K.tagM (.mkfn a) bb=5:=rfl
theorem tm_mm (g:Bool) (bb:Bool):K.tagM (.mm g) bb=0:=rfl
theorem tm_idxp (a c:Nat) (bb:Bool):K.tagM (.idxp a c) bb=0:=rfl
theorem tm_eqn (g:Bool) (bb:Bool):K.tagM (.eqn g) bb=0:=rfl
theorem tm_callg (a c:Nat) (bb:Bool):K.tagM (.callg a c) bb=0:=rfl
theorem tm_callm (a c:Nat) (l:List Nat) (bb:Bool):K.tagM (.callm a l c) bb=0:=rfl
theorem tm_bslice0 (a c:Nat) (z:DV) (p:List Nat) (b:Bool):K.tagM (.bslice a 0 c z p) b=3:=rfl
theorem tm_bslice1 (a n c:Nat) (z:DV) (p:List Nat):K.tagM (.bslice a (n+1) c z p) false=4:=rfl
theorem tm_bslice2 (a n c:Nat) (z:DV) (p:List Nat):K.tagM (.bslice a (n+1) c z p) true=0:=rfl
theorem tm_bslice (a n c:Nat) (z:DV) (p:List Nat) (b:Bool):K.tagM (.bslice a n c z p) b=if n=0 then 3 else if b=true then 0 else 4:=rfl
def nxM (Γ:Fns) (os:List LOp) (e:Env) (d:Option Nat):Option (DV×OB)→Option LS
 | some (v,ob)=>runM Γ os ⟨putD e d v,ob⟩
 | none=>none
theorem nxM_some (Γ:Fns) (os:List LOp) (e:Env) (d:Option Nat) (v:DV) (ob:OB):nxM Γ os e d (some (v,ob))=runM Γ os ⟨putD e d v,ob⟩:=rfl
theorem nxM_none (Γ:Fns) (os:List LOp) (e:Env) (d:Option Nat):nxM Γ os e d none=none:=rfl
theorem nxM_congr (Γ:Fns) (os:List LOp) (d:Option Nat) {e e':Env} {r r':Option (DV×OB)} (he:e=e') (h:r=r'):nxM Γ os e d r=nxM Γ os e' d r':=by rw [he,h]
theorem sc_st (cs:List DV):scal (.st cs)=cs.all scalC:=rfl
theorem sd_i (n:Int):scalC (.i n)=true:=rfl
theorem sd_y (n:Nat):scalC (.y n)=true:=rfl
theorem sd_b (n:Bool):scalC (.b n)=true:=rfl
theorem sd_s (n:List UInt8):scalC (.s n)=true:=rfl
theorem sd_w (n:BitVec 32):scalC (.w n)=true:=rfl
theorem sd_q (n:Nat):scalC (.q n)=true:=rfl
theorem sc_i (n:Int):scal (.i n)=true:=rfl
theorem sc_y (n:Nat):scal (.y n)=true:=rfl
theorem sc_b (n:Bool):scal (.b n)=true:=rfl
theorem sc_s (n:List UInt8):scal (.s n)=true:=rfl
theorem sc_w (n:BitVec 32):scal (.w n)=true:=rfl
theorem sc_q (n:Nat):scal (.q n)=true:=rfl
theorem sa_bslice (a n c:Nat) (z:DV) (p:List Nat) (xs:List DV):scalA (.bslice a n c z p) xs=xs.all scal:=rfl
theorem sa_mkfn (a:Nat) (xs:List DV):scalA (.mkfn a) xs=xs.all capV:=rfl
theorem cv_adr (d:DV):capV (.adr d)=true:=rfl
theorem cv_i (n:Int):capV (.i n)=true:=rfl
theorem cv_y (n:Nat):capV (.y n)=true:=rfl
theorem cv_b (n:Bool):capV (.b n)=true:=rfl
theorem cv_w (n:BitVec 32):capV (.w n)=true:=rfl
theorem sa_calld (a:Nat) (xs:List DV):scalA (.calld a) xs=true:=rfl
theorem sa_app (a c:Nat) (xs:List DV):scalA (.app a c) xs=noCel xs:=rfl
theorem nc_own (k n l h:Nat) (xs:List DV):noCel (.own k n l h :: xs)=true:=rfl
theorem nc_nil (xs:List DV):noCel (.nil :: xs)=true:=rfl
theorem sa_call (a c:Nat) (xs:List DV):scalA (.call a c) xs=true:=rfl
theorem sa_alloc (a:Nat) (z:DV) (xs:List DV):scalA (.alloc a z) xs=true:=rfl
theorem sa_build (z:List DV) (p:List (Nat×Nat)) (xs:List DV):scalA (.build z p) xs=xs.all scal:=rfl
theorem sa_callm (a c:Nat) (l:List Nat) (xs:List DV):scalA (.callm a l c) xs=true:=rfl
section
variable (Γ:Fns) (os:List LOp) (e:Env) (ob:OB)
theorem rm_nil (S:LS):runM Γ [] S=some S:=rfl
theorem rm_one (dd:Option Nat) (k:K) (args:List Opd):runM Γ [⟨dd,k,args,none⟩] ⟨e,ob⟩=nxM Γ [] e dd (eff Γ (frOf e) k (args.map (opv e)) ob):=by
 have h1:(args.map (LS.get ⟨e,ob⟩))=args.map (opv e):=by
  apply List.map_congr_left
  intro a _
  cases a <;> rfl
 have hf:(fun id=>!(id % 8 == 7) && !Env.mentions id e)=frOf e:=rfl
 simp only [runM,stepL,h1,hf]
 generalize eff Γ (frOf e) k (args.map (opv e)) ob=r
 cases r <;> rfl
theorem rm_gen (dd:Option Nat) (k:K) (args:List Opd) (p:LOp) (os:List LOp):runM Γ (⟨dd,k,args,none⟩ :: p :: os) ⟨e,ob⟩ =
  if (if k.isW=true then plainN e dd && scalA k (args.map (opv e)) else (subO e args (eff (fun _ _=>none) (fun _=>false) k (args.map (opv e)) []) && oldN e dd (eff (fun _ _=>none) (fun _=>false) k (args.map (opv e)) [])))=true then nxM Γ (p :: os) e dd (eff Γ (frOf e) k (args.map (opv e)) ob) else none:=by
 have h1:(args.map (LS.get ⟨e,ob⟩))=args.map (opv e):=by
  apply List.map_congr_left
  intro a _
  cases a <;> rfl
 have hf:(fun id=>!(id % 8 == 7) && !Env.mentions id e)=frOf e:=rfl
 have hp:plainDst ⟨dd,k,args,none⟩ ⟨e,ob⟩=plainN e dd:=by cases dd <;> rfl
 simp only [runM,stepL,h1,hf,hp,okStep,quiet,quiet_go]
 generalize eff Γ (frOf e) k (args.map (opv e)) ob=r
 cases r <;> rfl
end
def nxR (Γ:Fns) (L1 L2 F:List Nat) (os:List LOp) (e:Env) (d:Option Nat):Option (DV×OB)→Option LS
 | some (v,ob)=>runD Γ (.pairf L1 L2 F) os ⟨putD e d v,ob⟩
 | none=>none
theorem nxR_some (Γ:Fns) (L1 L2 F:List Nat) (os:List LOp) (e:Env) (d:Option Nat) (v:DV) (ob:OB):nxR Γ L1 L2 F os e d (some (v,ob))=runD Γ (.pairf L1 L2 F) os ⟨putD e d v,ob⟩:=rfl
theorem nxR_none (Γ:Fns) (L1 L2 F:List Nat) (os:List LOp) (e:Env) (d:Option Nat):nxR Γ L1 L2 F os e d none=none:=rfl
theorem nxR_congr (Γ:Fns) (L1 L2 F:List Nat) (os:List LOp) (d:Option Nat) {e e':Env} {r r':Option (DV×OB)} (he:e=e') (h:r=r'):nxR Γ L1 L2 F os e d r=nxR Γ L1 L2 F os e' d r':=by rw [he,h]
section
variable (Γ:Fns) (L1 L2 F:List Nat) (os:List LOp) (e:Env) (ob:OB)
theorem ru_nil (S:LS):runD Γ (.pairf L1 L2 F) [] S=some S:=rfl
theorem ru_gen (dd:Option Nat) (k:K) (args:List Opd):runD Γ (.pairf L1 L2 F) (⟨dd,k,args,none⟩ :: os) ⟨e,ob⟩ =
  if (if k.isW=true then (if k.isApp=true then clearL L1 (hitK k (args.map (opv e))) && allIn F (argT args) else clearL L2 (hitK k (args.map (opv e)))) && plainN e dd else (subO e args (eff (fun _ _=>none) (fun _=>false) k (args.map (opv e)) []) && oldN e dd (eff (fun _ _=>none) (fun _=>false) k (args.map (opv e)) [])) ||
   ((subO e args (eff (fun _ _=>none) (fun _=>false) k (args.map (opv e)) ob) && oldN e dd (eff (fun _ _=>none) (fun _=>false) k (args.map (opv e)) ob)) && (argsIn L2 (args.map (opv e)) && (argsIn L1 (args.map (opv e)) || dstIn F dd))))=true then nxR Γ L1 L2 F os e dd (eff Γ (frOf e) k (args.map (opv e)) ob) else none:=by
 have h1:(args.map (LS.get ⟨e,ob⟩))=args.map (opv e):=by
  apply List.map_congr_left
  intro a _
  cases a <;> rfl
 have hf:(fun id=>!(id % 8 == 7) && !Env.mentions id e)=frOf e:=rfl
 have hp:plainDst ⟨dd,k,args,none⟩ ⟨e,ob⟩=plainN e dd:=by cases dd <;> rfl
 simp only [runD,stepL,h1,hf,hp,okStep,clears,quiet,quiet_go,wquiet,wquiet_go]
 generalize eff Γ (frOf e) k (args.map (opv e)) ob=r
 cases r <;> rfl
theorem ru_gate (d:Nat) (k:K) (args:List Opd) (t:Nat) (w:Bool):runD Γ (.pairf L1 L2 F) (⟨some d,k,args,some (t,w)⟩ :: os) ⟨e,ob⟩=gate (look e t) w (runD Γ (.pairf L1 L2 F) (⟨some d,k,args,none⟩ :: os) ⟨e,ob⟩) (if (if k.isW=true then (if k.isApp=true then allIn F (argT args) else true) && (look e d).noM else oldV (look e d) .und)=true then runD Γ (.pairf L1 L2 F) os ⟨put e d .und,ob⟩ else none):=by
 have h1:(args.map (LS.get ⟨e,ob⟩))=args.map (opv e):=by
  apply List.map_congr_left
  intro a _
  cases a <;> rfl
 have ho:oldOk ⟨some d,k,args,some (t,w)⟩ ⟨e,ob⟩ .und=oldV (look e d) .und:=rfl
 have hp:plainDst ⟨some d,k,args,some (t,w)⟩ ⟨e,ob⟩=(look e d).noM:=rfl
 have hp2:plainDst ⟨some d,k,args,none⟩ ⟨e,ob⟩=(look e d).noM:=rfl
 simp only [runD,stepL,gate,okStep,clears,quiet,quiet_go,wquiet,wquiet_go,ho,hp,hp2]
 cases look e t with
 | b x =>
  by_cases h:x=w
  ·subst h
   simp only [if_true]
  ·simp only [if_neg h,putD]
   cases k.isW <;> cases k.isApp <;> cases (look e d).noM <;> cases oldV (look e d) .und <;> cases allIn F (argT args) <;> simp
 | und=>cases k.isW <;> cases k.isApp <;> cases (look e d).noM <;> cases oldV (look e d) .und <;> cases allIn F (argT args) <;> simp [putD]
 | _=>simp
end
section
variable (xs:List DV)
theorem hk_newnil (id:Nat):hitK (.newnil id) xs=[]:=rfl
theorem hk_make (id sz:Nat) (z:DV):hitK (.make id sz z) xs=[]:=rfl
theorem hk_alloc (id:Nat) (z:DV):hitK (.alloc id z) xs=[]:=rfl
theorem hk_box (id:Nat):hitK (.box id) xs=ownKs xs:=rfl
theorem hk_build (z:List DV) (p:List (Nat×Nat)):hitK (.build z p) xs=ownKs xs:=rfl
theorem hk_bslice (a b c:Nat) (z:DV) (p:List Nat):hitK (.bslice a b c z p) xs=ownKs xs:=rfl
theorem hk_call (f id:Nat):hitK (.call f id) xs=refKs (mutB id) xs:=rfl
theorem ak_mkfn (f:Nat):addsK (.mkfn f) xs=false:=rfl
theorem hk_mkfn (f:Nat):hitK (.mkfn (mkNo f 0)) xs=refKs false xs:=by
 show refKs false (fnIn (mkNo f 0) xs)=_
 unfold fnIn
 rw [if_neg (mkNo_0 f).1]
theorem hk_mkbd (f:Nat) (cs:List DV):hitK (.mkfn (mkNo f 1)) [.st cs]=refKs false cs:=by
 show refKs false (fnIn (mkNo f 1) [.st cs])=_
 unfold fnIn
 rw [if_pos (mkNo_1 f).1]
theorem hk_callm (f:Nat) (ms:List Nat) (id:Nat):hitK (.callm f ms id) xs=refKs (mutB id) xs++ownKs xs:=rfl
theorem hk_callg (f id:Nat):hitK (.callg f id) xs=refKs (mutB id) xs++ownKs xs:=rfl
theorem hk_calld (id:Nat):hitK (.calld id) xs=refKs (mutB id) xs:=rfl
theorem hk_store (a:Nat):hitK (.store a) xs=refKs false (xs.take 1)++ownKs xs:=rfl
theorem hk_app (a b k n lo hi:Nat) (ys:List DV):hitK (.app a b) (.own k n lo hi :: ys)=[k]:=rfl
theorem hk_appn (a b:Nat) (ys:List DV):hitK (.app a b) (.nil :: ys)=[]:=rfl
theorem hk_appc (a b k n:Nat) (ys:List DV):hitK (.app a b) (.cel k n :: ys)=[k]:=rfl
variable (L:List Nat)
theorem cl_nil:clearL L []=true:=rfl
theorem cl_cons (k:Nat) (ks:List Nat):clearL L (k :: ks)=(!L.contains k && clearL L ks):=rfl
theorem ai_nil:argsIn L []=true:=rfl
theorem ai_cons (x:DV):argsIn L (x :: xs)=(inL L x && argsIn L xs):=rfl
theorem il_i (n:Int):inL L (.i n)=true:=rfl
theorem il_w (n:BitVec 32):inL L (.w n)=true:=rfl
theorem il_q (n:Nat):inL L (.q n)=true:=rfl
theorem il_r (n:Int):inL L (.r n)=true:=rfl
theorem il_fn (f:Nat) (n:List DV):inL L (.fn f n)=true:=rfl
theorem il_y (n:Nat):inL L (.y n)=true:=rfl
theorem il_b (n:Bool):inL L (.b n)=true:=rfl
theorem il_s (n:List UInt8):inL L (.s n)=true:=rfl
theorem il_st (n:List DV):inL L (.st n)=true:=rfl
theorem il_sl (p:Nat) (n:List DV):inL L (.sl p n)=true:=rfl
theorem il_own (k n lo hi:Nat):inL L (.own k n lo hi)=L.contains k:=rfl
theorem il_adr (d:DV):inL L (.adr d)=true:=rfl
theorem il_oad (k n lo hi:Nat):inL L (.oad k n lo hi)=L.contains k:=rfl
theorem il_ref (d:DV):inL L (.ref d)=true:=rfl
theorem il_fr (z:Nat) (n:List DV):inL L (.fr z n)=true:=rfl
theorem il_tup (n:List DV):inL L (.tup n)=false:=rfl
theorem il_nil  : inL L (.nil )=true:=rfl
theorem il_np  : inL L (.np )=true:=rfl
theorem il_und  : inL L (.und )=true:=rfl
theorem il_dead  : inL L (.dead )=true:=rfl
theorem il_cel (a b:Nat)  : inL L (.cel a b)=true:=rfl
end
section
variable (r:Env) (t:Nat)
theorem oi_e:ownIds []=[]:=rfl
theorem oi_i (t:Nat) (n:Int):ownIds ((t,.i n) :: r)=ownIds r:=rfl
theorem oi_w (t:Nat) (n:BitVec 32):ownIds ((t,.w n) :: r)=ownIds r:=rfl
theorem oi_q (t:Nat) (n:Nat):ownIds ((t,.q n) :: r)=ownIds r:=rfl
theorem oi_r (t:Nat) (n:Int):ownIds ((t,.r n) :: r)=ownIds r:=rfl
theorem oi_fn (t:Nat) (f:Nat) (n:List DV):ownIds ((t,.fn f n) :: r)=ownIds r:=rfl
theorem oi_y (t:Nat) (n:Nat):ownIds ((t,.y n) :: r)=ownIds r:=rfl
theorem oi_b (t:Nat) (n:Bool):ownIds ((t,.b n) :: r)=ownIds r:=rfl
theorem oi_s (t:Nat) (n:List UInt8):ownIds ((t,.s n) :: r)=ownIds r:=rfl
theorem oi_st (t:Nat) (n:List DV):ownIds ((t,.st n) :: r)=ownIds r:=rfl
theorem oi_sl (t:Nat) (p:Nat) (n:List DV):ownIds ((t,.sl p n) :: r)=ownIds r:=rfl
theorem oi_own (t:Nat) (k n lo hi:Nat):ownIds ((t,.own k n lo hi) :: r)=k :: ownIds r:=rfl
theorem oi_adr (t:Nat) (d:DV):ownIds ((t,.adr d) :: r)=ownIds r:=rfl
theorem oi_oad (t:Nat) (k n lo hi:Nat):ownIds ((t,.oad k n lo hi) :: r)=ownIds r:=rfl
theorem oi_ref (t:Nat) (d:DV):ownIds ((t,.ref d) :: r)=ownIds r:=rfl
theorem oi_fr (t:Nat) (z:Nat) (n:List DV):ownIds ((t,.fr z n) :: r)=ownIds r:=rfl
theorem oi_tup (t:Nat) (n:List DV):ownIds ((t,.tup n) :: r)=ownIds r:=rfl
theorem oi_nil (t:Nat)  : ownIds ((t,.nil ) :: r)=ownIds r:=rfl
theorem oi_np (t:Nat)  : ownIds ((t,.np ) :: r)=ownIds r:=rfl
theorem oi_und (t:Nat)  : ownIds ((t,.und ) :: r)=ownIds r:=rfl
theorem oi_dead (t:Nat)  : ownIds ((t,.dead ) :: r)=ownIds r:=rfl
theorem oi_cel (a b:Nat) (t:Nat)  : ownIds ((t,.cel a b) :: r)=ownIds r:=rfl
theorem oj_e:objIds []=[]:=rfl
theorem oj_i (t:Nat) (n:Int):objIds ((t,.i n) :: r)=objIds r:=rfl
theorem oj_w (t:Nat) (n:BitVec 32):objIds ((t,.w n) :: r)=objIds r:=rfl
theorem oj_q (t:Nat) (n:Nat):objIds ((t,.q n) :: r)=objIds r:=rfl
theorem oj_r (t:Nat) (n:Int):objIds ((t,.r n) :: r)=objIds r:=rfl
theorem oj_fn (t:Nat) (f:Nat) (n:List DV):objIds ((t,.fn f n) :: r)=objIds r:=rfl
theorem oj_y (t:Nat) (n:Nat):objIds ((t,.y n) :: r)=objIds r:=rfl
theorem oj_b (t:Nat) (n:Bool):objIds ((t,.b n) :: r)=objIds r:=rfl
theorem oj_s (t:Nat) (n:List UInt8):objIds ((t,.s n) :: r)=objIds r:=rfl
theorem oj_st (t:Nat) (n:List DV):objIds ((t,.st n) :: r)=objIds r:=rfl
theorem oj_sl (t:Nat) (p:Nat) (n:List DV):objIds ((t,.sl p n) :: r)=objIds r:=rfl
theorem oj_own (t:Nat) (k n lo hi:Nat):objIds ((t,.own k n lo hi) :: r)=k :: objIds r:=rfl
theorem oj_adr (t:Nat) (d:DV):objIds ((t,.adr d) :: r)=objIds r:=rfl
theorem oj_oad (t:Nat) (k n lo hi:Nat):objIds ((t,.oad k n lo hi) :: r)=k :: objIds r:=rfl
theorem oj_ref (t:Nat) (d:DV):objIds ((t,.ref d) :: r)=objIds r:=rfl
theorem oj_fr (t:Nat) (z:Nat) (n:List DV):objIds ((t,.fr z n) :: r)=objIds r:=rfl
theorem oj_tup (t:Nat) (n:List DV):objIds ((t,.tup n) :: r)=objIds r:=rfl
theorem oj_nil (t:Nat)  : objIds ((t,.nil ) :: r)=objIds r:=rfl
theorem oj_np (t:Nat)  : objIds ((t,.np ) :: r)=objIds r:=rfl
theorem oj_und (t:Nat)  : objIds ((t,.und ) :: r)=objIds r:=rfl
theorem oj_dead (t:Nat)  : objIds ((t,.dead ) :: r)=objIds r:=rfl
theorem oj_cel (a b:Nat) (t:Nat)  : objIds ((t,.cel a b) :: r)=objIds r:=rfl
theorem ol_e:oadIds []=[]:=rfl
theorem ol_i (t:Nat) (n:Int):oadIds ((t,.i n) :: r)=oadIds r:=rfl
theorem ol_w (t:Nat) (n:BitVec 32):oadIds ((t,.w n) :: r)=oadIds r:=rfl
theorem ol_q (t:Nat) (n:Nat):oadIds ((t,.q n) :: r)=oadIds r:=rfl
theorem ol_r (t:Nat) (n:Int):oadIds ((t,.r n) :: r)=oadIds r:=rfl
theorem ol_fn (t:Nat) (f:Nat) (n:List DV):oadIds ((t,.fn f n) :: r)=oadIds r:=rfl
theorem ol_y (t:Nat) (n:Nat):oadIds ((t,.y n) :: r)=oadIds r:=rfl
theorem ol_b (t:Nat) (n:Bool):oadIds ((t,.b n) :: r)=oadIds r:=rfl
theorem ol_s (t:Nat) (n:List UInt8):oadIds ((t,.s n) :: r)=oadIds r:=rfl
theorem ol_st (t:Nat) (n:List DV):oadIds ((t,.st n) :: r)=oadIds r:=rfl
theorem ol_sl (t:Nat) (p:Nat) (n:List DV):oadIds ((t,.sl p n) :: r)=oadIds r:=rfl
theorem ol_own (t:Nat) (k n lo hi:Nat):oadIds ((t,.own k n lo hi) :: r)=oadIds r:=rfl
theorem ol_adr (t:Nat) (d:DV):oadIds ((t,.adr d) :: r)=oadIds r:=rfl
theorem ol_oad (t:Nat) (k n lo hi:Nat):oadIds ((t,.oad k n lo hi) :: r)=k :: oadIds r:=rfl
theorem ol_ref (t:Nat) (d:DV):oadIds ((t,.ref d) :: r)=oadIds r:=rfl
theorem ol_fr (t:Nat) (z:Nat) (n:List DV):oadIds ((t,.fr z n) :: r)=oadIds r:=rfl
theorem ol_tup (t:Nat) (n:List DV):oadIds ((t,.tup n) :: r)=oadIds r:=rfl
theorem ol_nil (t:Nat)  : oadIds ((t,.nil ) :: r)=oadIds r:=rfl
theorem ol_np (t:Nat)  : oadIds ((t,.np ) :: r)=oadIds r:=rfl
theorem ol_und (t:Nat)  : oadIds ((t,.und ) :: r)=oadIds r:=rfl
theorem ol_dead (t:Nat)  : oadIds ((t,.dead ) :: r)=oadIds r:=rfl
theorem ol_cel (a b:Nat) (t:Nat)  : oadIds ((t,.cel a b) :: r)=oadIds r:=rfl
theorem as_nil:asideE t []=true:=rfl
theorem as_cons (k:Nat) (d:DV):asideE t ((k,d) :: r)=((k == t || d.aside) && asideE t r):=rfl
theorem ao_nil:asideO []=true:=rfl
theorem ao_cons (k:Nat) (es:List DV) (ob:OB):asideO ((k,es) :: ob)=(allOldL es && asideO ob):=rfl
theorem av_i (n:Int):(DV.i n).aside=true:=rfl
theorem av_w (n:BitVec 32):(DV.w n).aside=true:=rfl
theorem av_q (n:Nat):(DV.q n).aside=true:=rfl
theorem av_r (n:Int):(DV.r n).aside=true:=rfl
theorem av_fn (f:Nat) (n:List DV):(DV.fn f n).aside=allOldL n:=rfl
theorem av_y (n:Nat):(DV.y n).aside=true:=rfl
theorem av_b (n:Bool):(DV.b n).aside=true:=rfl
theorem av_s (n:List UInt8):(DV.s n).aside=true:=rfl
theorem av_st (n:List DV):(DV.st n).aside=allOldL n:=rfl
theorem av_sl (p:Nat) (n:List DV):(DV.sl p n).aside=(p == 0 && allOldL n):=rfl
theorem av_own (k n lo hi:Nat):(DV.own k n lo hi).aside=true:=rfl
theorem av_adr (d:DV):(DV.adr d).aside=false:=rfl
theorem av_oad (k n lo hi:Nat):(DV.oad k n lo hi).aside=true:=rfl
theorem av_ref (d:DV):(DV.ref d).aside=false:=rfl
theorem av_fr (z:Nat) (n:List DV):(DV.fr z n).aside=false:=rfl
theorem av_tup (n:List DV):(DV.tup n).aside=false:=rfl
theorem av_nil  : (DV.nil ).aside=true:=rfl
theorem av_np  : (DV.np ).aside=true:=rfl
theorem av_und  : (DV.und ).aside=true:=rfl
theorem av_dead  : (DV.dead ).aside=true:=rfl
end
def proL (t id:Nat) (e:Env) (ob:OB):DV→Option LS
 | .sl 1 (x :: es)=>if id % 8≠7∧id % 8≠5∧0 < szId id∧szId id=x.cells.length∧Env.mentions id e=false∧asideE t e=true∧asideO ob=true∧allOldL (x :: es)=true then
    some ⟨put e t (.own id (es.length+1) 0 (es.length+1)),putO ob id (x :: es)⟩ else none
 | _=>none
theorem pro_cons (t id:Nat) (e:Env) (ob:OB) (x:DV) (es:List DV):proL t id e ob (.sl 1 (x :: es))=if id % 8≠7∧id % 8≠5∧0 < szId id∧szId id=x.cells.length∧Env.mentions id e=false∧asideE t e=true∧asideO ob=true∧allOldL (x :: es)=true then
    some ⟨put e t (.own id (es.length+1) 0 (es.length+1)),putO ob id (x :: es)⟩ else none:=rfl
noncomputable def ghK (lf:Nat→Option LF) (c:LC):Option LS→Option (Ex×LS)
 | some S=>ex lf c S
 | none=>none
theorem ghK_some (lf:Nat→Option LF) (c:LC) (S:LS):ghK lf c (some S)=ex lf c S:=rfl
theorem ghK_congr (lf:Nat→Option LF) (c:LC) {r r':Option LS} (h:r=r'):ghK lf c r=ghK lf c r':=by rw [h]
theorem ks_rename (lf:Nat→Option LF) (t id:Nat) (c:LC) (e:Env) (ob:OB):ex lf (.ghost (.rename t id) c) ⟨e,ob⟩=ghK lf c (renL t id e ob (look e t)):=by
 rw [ex_ghost]
 have:ghostL (.rename t id) ⟨e,ob⟩=renL t id e ob (look e t):=by
  simp only [ghostL]
  generalize look e t=d
  cases d <;> rfl
 rw [this]
 cases renL t id e ob (look e t) <;> rfl
def celL (t id:Nat) (e:Env) (ob:OB):DV→Option LS
 | .own k n 0 h=>match lookO ob k with
  | some es=>if k % 8 < 5∧id % 8=5∧szId k=szId id∧es.length=n∧h=n∧lookO ob id=none∧Env.mentions id e=false then
    some ⟨put e t (.cel id n),putO (dropO ob k) id es⟩ else none
  | none=>none
 | _=>none
theorem cel_own (t id:Nat) (e:Env) (ob:OB) (k n h:Nat):celL t id e ob (.own k n 0 h)=match lookO ob k with
  | some es=>if k % 8 < 5∧id % 8=5∧szId k=szId id∧es.length=n∧h=n∧lookO ob id=none∧Env.mentions id e=false then
    some ⟨put e t (.cel id n),putO (dropO ob k) id es⟩ else none
  | none=>none:=rfl
theorem ks_cell (lf:Nat→Option LF) (t id:Nat) (c:LC) (e:Env) (ob:OB):ex lf (.ghost (.cell_ t id) c) ⟨e,ob⟩=ghK lf c (celL t id e ob (look e t)):=by
 rw [ex_ghost]
 have:ghostL (.cell_ t id) ⟨e,ob⟩=celL t id e ob (look e t):=by
  simp only [ghostL]
  generalize look e t=d
  split
  ·rfl
  ·rename_i hno
   unfold celL
   split
   ·rename_i k n h; exact absurd rfl (hno k n h)
   ·rfl
 rw [this]
 cases celL t id e ob (look e t) <;> rfl
def shuC (e:Env) (ob:OB) (k:Nat) (es:List DV):Option DV→Option LS
 | some (.cel j m)=>match lookO ob j with
  | some rs=>if k % 8≠7∧k % 8≠5∧rs.length=m∧noCelE e=true∧noCelO k ob=true∧noCelL es.dropLast=true then
    some ⟨e,dropO (putO ob k (es.dropLast++[.sl 1 rs])) j⟩ else none
  | none=>none
 | _=>some ⟨e,ob⟩
def shuL (e:Env) (ob:OB):DV→Option LS
 | .own k n 0 h=>match lookO ob k with
  | some es=>if es.length=n∧h=n then shuC e ob k es es.getLast? else none
  | none=>none
 | _=>none
theorem shu_own (e:Env) (ob:OB) (k n h:Nat):shuL e ob (.own k n 0 h)=match lookO ob k with
  | some es=>if es.length=n∧h=n then shuC e ob k es es.getLast? else none
  | none=>none:=rfl
theorem shc_none (e:Env) (ob:OB) (k:Nat) (es:List DV):shuC e ob k es none=some ⟨e,ob⟩:=rfl
theorem shc_cel (e:Env) (ob:OB) (k j m:Nat) (es:List DV):shuC e ob k es (some (.cel j m))=match lookO ob j with
  | some rs=>if k % 8≠7∧k % 8≠5∧rs.length=m∧noCelE e=true∧noCelO k ob=true∧noCelL es.dropLast=true then
    some ⟨e,dropO (putO ob k (es.dropLast++[.sl 1 rs])) j⟩ else none
  | none=>none:=rfl
theorem ks_shut (lf:Nat→Option LF) (t:Nat) (c:LC) (e:Env) (ob:OB):ex lf (.ghost (.shut t) c) ⟨e,ob⟩=ghK lf c (shuL e ob (look e t)):=by
 rw [ex_ghost]
 have:ghostL (.shut t) ⟨e,ob⟩=shuL e ob (look e t):=by
  simp only [ghostL]
  generalize look e t=d
  split
  ·rename_i k n h
   rw [shu_own]
   cases lookO ob k with
   | none=>rfl
   | some es =>
    simp only
    split
    ·generalize es.getLast?=q
     cases q with
     | none=>rfl
     | some c =>
      cases c with
      | cel j m =>
       simp only [shuC]
       cases lookO ob j <;> rfl
      | _=>rfl
    ·rfl
  ·rename_i hno
   unfold shuL
   split
   ·rename_i k n h
    exact absurd rfl (hno k n h)
   ·rfl
 rw [this]
 cases shuL e ob (look e t) <;> rfl
def frzL (t:Nat) (e:Env) (ob:OB):DV→Option LS
 | .own k n lo hi=>match elems ob (.own k n lo hi) with
  | some es=>if 5≤k % 8 then none else some ⟨put e t (.sl (wholeP n lo hi) es),dropO ob k⟩
  | none=>none
 | _=>none
theorem frz_own (t:Nat) (e:Env) (ob:OB) (k n lo hi:Nat):frzL t e ob (.own k n lo hi)=match elems ob (.own k n lo hi) with
  | some es=>if 5≤k % 8 then none else some ⟨put e t (.sl (wholeP n lo hi) es),dropO ob k⟩
  | none=>none:=rfl
def clsL (t:Nat) (e:Env) (ob:OB):DV→Option LS
 | .oad k n 0 0=>match lookO ob k with
  | some [c]=>if k % 8 < 5∧n=1 then some ⟨put e t (.adr c),dropO ob k⟩ else none
  | _=>none
 | _=>none
theorem cls_oad (t:Nat) (e:Env) (ob:OB) (k n:Nat):clsL t e ob (.oad k n 0 0)=match lookO ob k with
  | some [c]=>if k % 8 < 5∧n=1 then some ⟨put e t (.adr c),dropO ob k⟩ else none
  | _=>none:=rfl
theorem ks_close (lf:Nat→Option LF) (t:Nat) (c:LC) (e:Env) (ob:OB):ex lf (.ghost (.close_ t) c) ⟨e,ob⟩=ghK lf c (clsL t e ob (look e t)):=by
 rw [ex_ghost]
 have:ghostL (.close_ t) ⟨e,ob⟩=clsL t e ob (look e t):=by
  simp only [ghostL]
  generalize look e t=d
  unfold clsL
  rfl
 rw [this]
 cases clsL t e ob (look e t) <;> rfl
theorem ks_freeze (lf:Nat→Option LF) (t:Nat) (c:LC) (e:Env) (ob:OB):ex lf (.ghost (.freeze t) c) ⟨e,ob⟩=ghK lf c (frzL t e ob (look e t)):=by
 rw [ex_ghost]
 have:ghostL (.freeze t) ⟨e,ob⟩=frzL t e ob (look e t):=by
  simp only [ghostL]
  generalize look e t=d
  cases d with
  | own k n lo hi =>
   simp only [frzL]
   cases elems ob (.own k n lo hi) <;> rfl
  | _=>rfl
 rw [this]
 cases frzL t e ob (look e t) <;> rfl
theorem ks_promote (lf:Nat→Option LF) (t id:Nat) (c:LC) (e:Env) (ob:OB):ex lf (.ghost (.promote t id) c) ⟨e,ob⟩=ghK lf c (proL t id e ob (look e t)):=by
 rw [ex_ghost]
 have:ghostL (.promote t id) ⟨e,ob⟩=proL t id e ob (look e t):=by
  simp only [ghostL]
  generalize look e t=d
  cases d with
  | sl p es =>
   match p with
   | 0=>rfl
   | 1=>cases es <;> rfl
   | p+2=>rfl
  | _=>rfl
 rw [this]
 cases proL t id e ob (look e t) <;> rfl
section
variable (xs:List DV)
theorem ak_newnil (id:Nat):addsK (.newnil id) xs=true:=rfl
theorem ak_make (id sz:Nat) (z:DV):addsK (.make id sz z) xs=true:=rfl
theorem ak_alloc (id:Nat) (z:DV):addsK (.alloc id z) xs=true:=rfl
theorem ak_box (id:Nat):addsK (.box id) xs=(ownKs xs).isEmpty:=rfl
theorem ak_build (z:List DV) (p:List (Nat×Nat)):addsK (.build z p) xs=(ownKs xs).isEmpty:=rfl
theorem ak_bslice (a b c:Nat) (z:DV) (p:List Nat):addsK (.bslice a b c z p) xs=(ownKs xs).isEmpty:=rfl
theorem ak_call (f id:Nat):addsK (.call f id) xs=(refKs (mutB id) xs).isEmpty:=rfl
theorem ak_callm (f:Nat) (ms:List Nat) (id:Nat):addsK (.callm f ms id) xs=false:=rfl
theorem ak_callg (f id:Nat):addsK (.callg f id) xs=false:=rfl
theorem ak_calld (id:Nat):addsK (.calld id) xs=(refKs (mutB id) xs).isEmpty:=rfl
theorem ak_store (a:Nat):addsK (.store a) xs=false:=rfl
theorem ak_app (a b:Nat):addsK (.app a b) xs=false:=rfl
end
section
theorem iw_mv:K.isW .mv=false:=rfl
theorem iw_newnil (id:Nat):K.isW (.newnil id)=true:=rfl
theorem iw_pick:K.isW .pick=false:=rfl
theorem iw_bin (op:BinOp):K.isW (.bin op)=false:=rfl
theorem iw_eqb (n:Bool):K.isW (.eqb n)=false:=rfl
theorem iw_eqs (n:Bool) (m:Nat):K.isW (.eqs n m)=false:=rfl
theorem iw_un (op:UnOp):K.isW (.un op)=false:=rfl
theorem iw_len:K.isW .len=false:=rfl
theorem iw_lens:K.isW .lens=false:=rfl
theorem iw_chk:K.isW .chk=false:=rfl
theorem iw_fld (a b:Nat) (c:Bool):K.isW (.fld a b c)=false:=rfl
theorem iw_fldv (a b:Nat) (c:Bool):K.isW (.fldv a b c)=false:=rfl
theorem iw_idxa (a:Nat):K.isW (.idxa a)=false:=rfl
theorem iw_idx:K.isW .idx=false:=rfl
theorem iw_load (a:Nat) (c:Bool):K.isW (.load a c)=false:=rfl
theorem iw_store (a:Nat):K.isW (.store a)=true:=rfl
theorem iw_slice (a b:Bool) (c:Nat):K.isW (.slice a b c)=false:=rfl
theorem iw_slices (a b:Bool):K.isW (.slices a b)=false:=rfl
theorem iw_make (a b:Nat) (c:DV):K.isW (.make a b c)=true:=rfl
theorem iw_alloc (a:Nat) (c:DV):K.isW (.alloc a c)=true:=rfl
theorem iw_box (a:Nat):K.isW (.box a)=true:=rfl
theorem iw_build (a:List DV) (b:List (Nat×Nat)):K.isW (.build a b)=true:=rfl
theorem iw_bslice (a b c:Nat) (d:DV) (p:List Nat):K.isW (.bslice a b c d p)=true:=rfl
theorem iw_app (a b:Nat):K.isW (.app a b)=true:=rfl
theorem iw_b2i (a:Nat):K.isW (.conv .b2i a)=false:=rfl
theorem iw_i2b (a:Nat):K.isW (.conv .i2b a)=false:=rfl
theorem iw_i2i (a:Nat):K.isW (.conv .i2i a)=false:=rfl
theorem iw_same (a:Nat):K.isW (.conv .same a)=false:=rfl
theorem iw_b2s (a:Nat):K.isW (.conv .b2s a)=false:=rfl
theorem iw_s2b (a:Nat):K.isW (.conv .s2b a)=true:=rfl
theorem iw_ext (a:Nat):K.isW (.ext a)=false:=rfl
theorem is_mv:K.isStore (.mv)=false:=rfl
theorem is_newnil {a0:_}:K.isStore (.newnil a0)=false:=rfl
theorem is_pick:K.isStore (.pick)=false:=rfl
theorem is_bin {a0:_}:K.isStore (.bin a0)=false:=rfl
theorem is_eqb {a0:_}:K.isStore (.eqb a0)=false:=rfl
theorem is_eqs {a0:_} {a1:_}:K.isStore (.eqs a0 a1)=false:=rfl
theorem is_un {a0:_}:K.isStore (.un a0)=false:=rfl
theorem is_len:K.isStore (.len)=false:=rfl
theorem is_lens:K.isStore (.lens)=false:=rfl
theorem is_chk:K.isStore (.chk)=false:=rfl
theorem is_fld {a0:_} {a1:_} {a2:_}:K.isStore (.fld a0 a1 a2)=false:=rfl
theorem is_fldv {a0:_} {a1:_} {a2:_}:K.isStore (.fldv a0 a1 a2)=false:=rfl
theorem is_idxa {a0:_}:K.isStore (.idxa a0)=false:=rfl
theorem is_idx:K.isStore (.idx)=false:=rfl
theorem is_load {a0:_} {a1:_}:K.isStore (.load a0 a1)=false:=rfl
theorem is_slice {a0:_} {a1:_} {a2:_}:K.isStore (.slice a0 a1 a2)=false:=rfl
theorem is_slices {a0:_} {a1:_}:K.isStore (.slices a0 a1)=false:=rfl
theorem is_make {a0:_} {a1:_} {a2:_}:K.isStore (.make a0 a1 a2)=false:=rfl
theorem is_alloc {a0:_} {a1:_}:K.isStore (.alloc a0 a1)=false:=rfl
theorem is_box {a0:_}:K.isStore (.box a0)=false:=rfl
theorem is_build {a0:_} {a1:_}:K.isStore (.build a0 a1)=false:=rfl
theorem is_bslice {a0:_} {a1:_} {a2:_} {a3:_} {a4:_}:K.isStore (.bslice a0 a1 a2 a3 a4)=false:=rfl
theorem is_app {a0:_} {a1:_}:K.isStore (.app a0 a1)=false:=rfl
theorem is_conv {a0:_} {a1:_}:K.isStore (.conv a0 a1)=false:=rfl
theorem is_ext {a0:_}:K.isStore (.ext a0)=false:=rfl
theorem is_call {a0:_} {a1:_}:K.isStore (.call a0 a1)=false:=rfl
theorem is_calld {a0:_}:K.isStore (.calld a0)=false:=rfl
theorem is_callm {a0:_} {a1:_} {a2:_}:K.isStore (.callm a0 a1 a2)=false:=rfl
theorem is_callg {a0:_} {a1:_}:K.isStore (.callg a0 a1)=false:=rfl
theorem is_mkfn {a0:_}:K.isStore (.mkfn a0)=false:=rfl
theorem is_mm {a0:_}:K.isStore (.mm a0)=false:=rfl
theorem is_idxp {a0:_} {a1:_}:K.isStore (.idxp a0 a1)=false:=rfl
theorem is_eqn {a0:_}:K.isStore (.eqn a0)=false:=rfl
theorem is_store (n:Nat):K.isStore (.store n)=true:=rfl
theorem iw_eqn (a:Bool):K.isW (.eqn a)=false:=rfl
theorem iw_mm (a:Bool):K.isW (.mm a)=false:=rfl
theorem iw_idxp (a b:Nat):K.isW (.idxp a b)=false:=rfl
theorem iw_callm (a:Nat) (ms:List Nat) (b:Nat):K.isW (.callm a ms b)=true:=rfl
theorem iw_callg (a b:Nat):K.isW (.callg a b)=true:=rfl
theorem iw_calld (a:Nat):K.isW (.calld a)=true:=rfl
theorem iw_mkfn (a:Nat):K.isW (.mkfn a)=true:=rfl
theorem iw_i2r (a:Nat):K.isW (.conv .i2r a)=false:=rfl
theorem iw_i2q (a:Nat):K.isW (.conv .i2q a)=false:=rfl
theorem iw_q2i (a:Nat):K.isW (.conv .q2i a)=false:=rfl
theorem iw_q2q (a:Nat):K.isW (.conv .q2q a)=false:=rfl
theorem iw_r2s (a:Nat):K.isW (.conv .r2s a)=false:=rfl
theorem iw_call (a b:Nat):K.isW (.call a b)=true:=rfl
theorem ia_mv:K.isApp .mv=false:=rfl
theorem ia_newnil (id:Nat):K.isApp (.newnil id)=false:=rfl
theorem ia_pick:K.isApp .pick=false:=rfl
theorem ia_bin (op:BinOp):K.isApp (.bin op)=false:=rfl
theorem ia_eqb (n:Bool):K.isApp (.eqb n)=false:=rfl
theorem ia_eqs (n:Bool) (m:Nat):K.isApp (.eqs n m)=false:=rfl
theorem ia_un (op:UnOp):K.isApp (.un op)=false:=rfl
theorem ia_len:K.isApp .len=false:=rfl
theorem ia_lens:K.isApp .lens=false:=rfl
theorem ia_chk:K.isApp .chk=false:=rfl
theorem ia_fld (a b:Nat) (c:Bool):K.isApp (.fld a b c)=false:=rfl
theorem ia_fldv (a b:Nat) (c:Bool):K.isApp (.fldv a b c)=false:=rfl
theorem ia_idxa (a:Nat):K.isApp (.idxa a)=false:=rfl
theorem ia_idx:K.isApp .idx=false:=rfl
theorem ia_load (a:Nat) (c:Bool):K.isApp (.load a c)=false:=rfl
theorem ia_store (a:Nat):K.isApp (.store a)=false:=rfl
theorem ia_slice (a b:Bool) (c:Nat):K.isApp (.slice a b c)=false:=rfl
theorem ia_slices (a b:Bool):K.isApp (.slices a b)=false:=rfl
theorem ia_make (a b:Nat) (c:DV):K.isApp (.make a b c)=false:=rfl
theorem ia_alloc (a:Nat) (c:DV):K.isApp (.alloc a c)=false:=rfl
theorem ia_box (a:Nat):K.isApp (.box a)=false:=rfl
theorem ia_build (a:List DV) (b:List (Nat×Nat)):K.isApp (.build a b)=false:=rfl
theorem ia_bslice (a b c:Nat) (d:DV) (p:List Nat):K.isApp (.bslice a b c d p)=false:=rfl
theorem ia_app (a b:Nat):K.isApp (.app a b)=true:=rfl
theorem ia_b2i (a:Nat):K.isApp (.conv .b2i a)=false:=rfl
theorem ia_i2b (a:Nat):K.isApp (.conv .i2b a)=false:=rfl
theorem ia_i2i (a:Nat):K.isApp (.conv .i2i a)=false:=rfl
theorem ia_same (a:Nat):K.isApp (.conv .same a)=false:=rfl
theorem ia_b2s (a:Nat):K.isApp (.conv .b2s a)=false:=rfl
theorem ia_s2b (a:Nat):K.isApp (.conv .s2b a)=false:=rfl
theorem ia_ext (a:Nat):K.isApp (.ext a)=false:=rfl
theorem ia_eqn (a:Bool):K.isApp (.eqn a)=false:=rfl
theorem ia_mm (a:Bool):K.isApp (.mm a)=false:=rfl
theorem ia_idxp (a b:Nat):K.isApp (.idxp a b)=false:=rfl
theorem ia_callm (a:Nat) (ms:List Nat) (b:Nat):K.isApp (.callm a ms b)=false:=rfl
theorem ia_callg (a b:Nat):K.isApp (.callg a b)=false:=rfl
theorem ia_calld (a:Nat):K.isApp (.calld a)=false:=rfl
theorem ia_mkfn (a:Nat):K.isApp (.mkfn a)=false:=rfl
theorem ia_i2r (a:Nat):K.isApp (.conv .i2r a)=false:=rfl
theorem ia_i2q (a:Nat):K.isApp (.conv .i2q a)=false:=rfl
theorem ia_q2i (a:Nat):K.isApp (.conv .q2i a)=false:=rfl
theorem ia_q2q (a:Nat):K.isApp (.conv .q2q a)=false:=rfl
theorem ia_r2s (a:Nat):K.isApp (.conv .r2s a)=false:=rfl
theorem ia_call (a b:Nat):K.isApp (.call a b)=false:=rfl
theorem tg_bslice (id a b:Nat) (z:DV) (ps:List Nat):K.tag (.bslice id a b z ps)=1:=rfl
theorem tg_mv:K.tag .mv=0:=rfl
theorem tg_newnil (id:Nat):K.tag (.newnil id)=0:=rfl
theorem tg_pick:K.tag .pick=0:=rfl
theorem tg_bin (op:BinOp):K.tag (.bin op)=0:=rfl
theorem tg_eqb (g:Bool):K.tag (.eqb g)=0:=rfl
theorem tg_un (op:UnOp):K.tag (.un op)=0:=rfl
theorem tg_len:K.tag .len=0:=rfl
theorem tg_lens:K.tag .lens=0:=rfl
theorem tg_fld (a b:Nat) (g:Bool):K.tag (.fld a b g)=0:=rfl
theorem tg_fldv (a b:Nat) (g:Bool):K.tag (.fldv a b g)=0:=rfl
theorem tg_idxa (a:Nat):K.tag (.idxa a)=0:=rfl
theorem tg_idx:K.tag .idx=0:=rfl
theorem tg_load (a:Nat) (g:Bool):K.tag (.load a g)=0:=rfl
theorem tg_store (a:Nat):K.tag (.store a)=0:=rfl
theorem tg_slice (a b:Bool) (n:Nat):K.tag (.slice a b n)=0:=rfl
theorem tg_slices (a b:Bool):K.tag (.slices a b)=0:=rfl
theorem tg_make (a b:Nat) (z:DV):K.tag (.make a b z)=0:=rfl
theorem tg_alloc (a:Nat) (z:DV):K.tag (.alloc a z)=1:=rfl
theorem tg_box (a:Nat):K.tag (.box a)=0:=rfl
theorem tg_build (z:List DV) (ps:List (Nat×Nat)):K.tag (.build z ps)=0:=rfl
theorem tg_app (a b:Nat):K.tag (.app a b)=0:=rfl
theorem tg_conv (c:Cv) (a:Nat):K.tag (.conv c a)=0:=rfl
theorem tg_ext (j:Nat):K.tag (.ext j)=0:=rfl
theorem tg_call (f id:Nat):K.tag (.call f id)=2:=rfl
theorem tg_calld (id:Nat):K.tag (.calld id)=2:=rfl
theorem tg_callm (f:Nat) (ms:List Nat) (id:Nat):K.tag (.callm f ms id)=0:=rfl
theorem tg_callg (f id:Nat):K.tag (.callg f id)=0:=rfl
theorem tg_mkfn (f:Nat):K.tag (.mkfn f)=0:=rfl
theorem tg_mm (g:Bool):K.tag (.mm g)=0:=rfl
theorem tg_idxp (a b:Nat):K.tag (.idxp a b)=0:=rfl
theorem tg_eqn (g:Bool):K.tag (.eqn g)=0:=rfl
theorem tg_eqs (g:Bool) (n:Nat):K.tag (.eqs g n)=0:=rfl
theorem tg_chk:K.tag .chk=0:=rfl
theorem mi_nil:madeIds []=[]:=rfl
theorem mi_cons (o:LOp) (os:List LOp):madeIds (o :: os)=o.k.made++madeIds os:=rfl
theorem md_bslice (id a b:Nat) (z:DV) (ps:List Nat):K.made (.bslice id a b z ps)=[id]:=rfl
theorem md_mv:K.made .mv=[]:=rfl
theorem md_newnil (id:Nat):K.made (.newnil id)=[]:=rfl
theorem md_pick:K.made .pick=[]:=rfl
theorem md_bin (op:BinOp):K.made (.bin op)=[]:=rfl
theorem md_eqb (g:Bool):K.made (.eqb g)=[]:=rfl
theorem md_un (op:UnOp):K.made (.un op)=[]:=rfl
theorem md_len:K.made .len=[]:=rfl
theorem md_lens:K.made .lens=[]:=rfl
theorem md_fld (a b:Nat) (g:Bool):K.made (.fld a b g)=[]:=rfl
theorem md_fldv (a b:Nat) (g:Bool):K.made (.fldv a b g)=[]:=rfl
theorem md_idxa (a:Nat):K.made (.idxa a)=[]:=rfl
theorem md_idx:K.made .idx=[]:=rfl
theorem md_load (a:Nat) (g:Bool):K.made (.load a g)=[]:=rfl
theorem md_store (a:Nat):K.made (.store a)=[]:=rfl
theorem md_slice (a b:Bool) (n:Nat):K.made (.slice a b n)=[]:=rfl
theorem md_slices (a b:Bool):K.made (.slices a b)=[]:=rfl
theorem md_make (a b:Nat) (z:DV):K.made (.make a b z)=[]:=rfl
theorem md_alloc (a:Nat) (z:DV):K.made (.alloc a z)=[]:=rfl
theorem md_box (a:Nat):K.made (.box a)=[]:=rfl
theorem md_build (z:List DV) (ps:List (Nat×Nat)):K.made (.build z ps)=[]:=rfl
theorem md_app (a b:Nat):K.made (.app a b)=[]:=rfl
theorem md_conv (c:Cv) (a:Nat):K.made (.conv c a)=[]:=rfl
theorem md_ext (j:Nat):K.made (.ext j)=[]:=rfl
theorem md_call (f id:Nat):K.made (.call f id)=[]:=rfl
theorem md_calld (id:Nat):K.made (.calld id)=[]:=rfl
theorem md_callm (f:Nat) (ms:List Nat) (id:Nat):K.made (.callm f ms id)=[]:=rfl
theorem md_callg (f id:Nat):K.made (.callg f id)=[]:=rfl
theorem md_mkfn (f:Nat):K.made (.mkfn f)=[]:=rfl
theorem md_mm (g:Bool):K.made (.mm g)=[]:=rfl
theorem md_idxp (a b:Nat):K.made (.idxp a b)=[]:=rfl
theorem md_eqn (g:Bool):K.made (.eqn g)=[]:=rfl
theorem md_eqs (g:Bool) (n:Nat):K.made (.eqs g n)=[]:=rfl
theorem md_chk:K.made .chk=[]:=rfl
theorem pt_nil:appT []=[]:=rfl
theorem pt_cons (o:LOp) (os:List LOp):appT (o :: os)=if o.k.isApp=true then argT o.args else appT os:=rfl
theorem gt_nil:argT []=[]:=rfl
theorem gt_t (n:Nat) (r:List Opd):argT (.t n :: r)=n :: argT r:=rfl
theorem gt_c (d:DV) (r:List Opd):argT (.c d :: r)=argT r:=rfl
theorem di_some (F:List Nat) (d:Nat):dstIn F (some d)=F.contains d:=rfl
theorem di_none (F:List Nat):dstIn F none=false:=rfl
theorem an_nil (A:List Nat):allIn [] A=true:=rfl
theorem an_cons (t:Nat) (F A:List Nat):allIn (t :: F) A=(A.contains t && allIn F A):=rfl
theorem nm_i (n:Int):DV.noM (.i n)=true:=rfl
theorem nm_w (n:BitVec 32):DV.noM (.w n)=true:=rfl
theorem nm_q (n:Nat):DV.noM (.q n)=true:=rfl
theorem nm_r (n:Int):DV.noM (.r n)=true:=rfl
theorem nm_fn (f:Nat) (n:List DV):DV.noM (.fn f n)=true:=rfl
theorem nm_y (n:Nat):DV.noM (.y n)=true:=rfl
theorem nm_b (n:Bool):DV.noM (.b n)=true:=rfl
theorem nm_s (n:List UInt8):DV.noM (.s n)=true:=rfl
theorem nm_st (n:List DV):DV.noM (.st n)=true:=rfl
theorem nm_sl (p:Nat) (n:List DV):DV.noM (.sl p n)=true:=rfl
theorem nm_own (a b c d:Nat):DV.noM (.own a b c d)=false:=rfl
theorem nm_oad (a b c d:Nat):DV.noM (.oad a b c d)=false:=rfl
theorem nm_adr (d:DV):DV.noM (.adr d)=true:=rfl
theorem nm_nil:DV.noM .nil=true:=rfl
theorem nm_np:DV.noM .np=true:=rfl
theorem nm_und:DV.noM .und=true:=rfl
theorem nm_dead:DV.noM .dead=true:=rfl
theorem nm_cel (a b:Nat):DV.noM (.cel a b)=true:=rfl
theorem nm_tup (d:List DV):DV.noM (.tup d)=false:=rfl
end

def andI (a b:Int):Int:=wr ((BitVec.ofInt 64 a &&& BitVec.ofInt 64 b).toNat)
def orI (a b:Int):Int:=wr ((BitVec.ofInt 64 a ||| BitVec.ofInt 64 b).toNat)
def xorI (a b:Int):Int:=wr ((BitVec.ofInt 64 a ^^^ BitVec.ofInt 64 b).toNat)
def andNotI (a b:Int):Int:=wr ((BitVec.ofInt 64 a &&& ~~~(BitVec.ofInt 64 b)).toNat)
def shlI (a b:Int):Int:=wr (a * 2 ^ (min b.toNat 64))
def shrI (a b:Int):Int:=a.fdiv (2 ^ (min b.toNat 64))
section
variable (a b:Int)
theorem bi_add:binI .add a b=some (.i (wr (a+b))):=rfl
theorem bi_sub:binI .sub a b=some (.i (wr (a - b))):=rfl
theorem bi_mul:binI .mul a b=some (.i (wr (a * b))):=rfl
theorem bi_quo:binI .quo a b=if b=0 then none else some (.i (wr (a.tdiv b))):=rfl
theorem bi_rem:binI .rem a b=if b=0 then none else some (.i (a.tmod b)):=rfl
theorem bi_eql:binI .eql a b=some (.b (a == b)):=rfl
theorem bi_neq:binI .neq a b=some (.b (a != b)):=rfl
theorem bi_lss:binI .lss a b=some (.b (decide (a < b))):=rfl
theorem bi_leq:binI .leq a b=some (.b (decide (a≤b))):=rfl
theorem bi_gtr:binI .gtr a b=some (.b (decide (b < a))):=rfl
theorem bi_geq:binI .geq a b=some (.b (decide (b≤a))):=rfl
theorem bi_shl:binI .shl a b=if b < 0 then none else some (.i (shlI a b)):=rfl
theorem bi_shr:binI .shr a b=if b < 0 then none else some (.i (shrI a b)):=rfl
theorem bi_and:binI .and a b=some (.i (andI a b)):=rfl
theorem bi_or:binI .or a b=some (.i (orI a b)):=rfl
theorem bi_xor:binI .xor a b=some (.i (xorI a b)):=rfl
theorem bi_andNot:binI .andNot a b=some (.i (andNotI a b)):=rfl
end

section
variable (a b:BitVec 32) (n:Int)
theorem bw_and:binW .and a b=some (.w (a &&& b)):=rfl
theorem bw_or:binW .or a b=some (.w (a ||| b)):=rfl
theorem bw_xor:binW .xor a b=some (.w (a ^^^ b)):=rfl
theorem bw_andNot:binW .andNot a b=some (.w (a &&& ~~~b)):=rfl
theorem bw_eql:binW .eql a b=some (.b (a == b)):=rfl
theorem bw_neq:binW .neq a b=some (.b (!(a == b))):=rfl
theorem sw_shl:shiftW .shl a n=if n < 0 then none else some (.w (shlW a (min n.toNat 32))):=rfl
theorem sw_shr:shiftW .shr a n=if n < 0 then none else some (.w (shrW a (min n.toNat 32))):=rfl
theorem sq_shr (a:Nat):shiftQ .shr a n=if n < 0 then none else some (.q (a / 2 ^ (min n.toNat 64))):=rfl
theorem bq_and (a b:Nat):binQ .and a b=some (.q (BitVec.ofNat 64 a &&& BitVec.ofNat 64 b).toNat):=rfl
theorem bq_add (a b:Nat):binQ .add a b=some (.q ((a+b) % 18446744073709551616)):=rfl
theorem bq_mul (a b:Nat):binQ .mul a b=some (.q ((a * b) % 18446744073709551616)):=rfl
theorem bq_eql (a b:Nat):binQ .eql a b=some (.b (a == b)):=rfl
theorem bq_shr (a b:Nat):binQ .shr a b=shiftQ .shr a b:=rfl
theorem sq_shl (a:Nat):shiftQ .shl a n=if n < 0 then none else some (.q ((a * 2 ^ (min n.toNat 64)) % 18446744073709551616)):=rfl
end
theorem gEnv_nil:gEnv []=[]:=rfl

theorem gate_congr {x x':DV} (w:Bool) (a b:Option LS) (h:x=x'):gate x w a b=gate x' w a b:=by rw [h]
theorem nx_congr (Γ:Fns) (os:List LOp) (d:Option Nat) {e e':Env} {r r':Option (DV×OB)} (he:e=e') (h:r=r'):nx Γ os e d r=nx Γ os e' d r':=by rw [he,h]
theorem nxD_congr (Γ:Fns) (os:List LOp) (d:Option Nat) {e e':Env} {r r':Option (DV×OB)} (he:e=e') (h:r=r'):nxD Γ os e d r=nxD Γ os e' d r':=by rw [he,h]
theorem runL_congr (Γ:Fns) (os:List LOp) {S S':LS} (h:S=S'):runL Γ os S=runL Γ os S':=by rw [h]
theorem nxW_congr (Γ:Fns) (os:List LOp) (d:Option Nat) {e e':Env} {r r':Option (DV×OB)} (he:e=e') (h:r=r'):nxW Γ os e d r=nxW Γ os e' d r':=by rw [he,h]
theorem runD_congr (Γ:Fns) (q:Mode) (os:List LOp) {S S':LS} (h:S=S'):runD Γ q os S=runD Γ q os S':=by rw [h]
theorem eff_congr (Γ:Fns) (fr:Nat→Bool) (k:K) {xs xs':List DV} {ob ob':OB} (h:xs=xs') (ho:ob=ob'):eff Γ fr k xs ob=eff Γ fr k xs' ob':=by rw [h,ho]
theorem calL_congr (m:Bool) (Γ:Fns) (fr:Nat→Bool) (f id:Nat) (xs:List DV) (ob:OB) {r r':Option (List DV)} (h:r=r'):calL m Γ fr f id xs ob r=calL m Γ fr f id xs ob r':=by rw [h]
theorem ret2_congr (m:Bool) (fr:Nat→Bool) (id:Nat) (xs:List DV) (ob:OB) {r r':Option (DV×List DV)} (h:r=r'):ret2 m fr id xs ob r=ret2 m fr id xs ob r':=by rw [h]

section
variable (lf:Nat→Option LF)
noncomputable def seqK (b:LC):Option (Ex×LS)→Option (Ex×LS)
 | some (.normal,S1)=>ex lf b S1
 | r=>r
theorem seqK_n (b:LC) (S:LS):seqK lf b (some (.normal,S))=ex lf b S:=rfl
theorem seqK_e (b:LC) (j:Nat) (S:LS):seqK lf b (some (.exit j,S))=some (.exit j,S):=rfl
theorem seqK_r (b:LC) (S:LS):seqK lf b (some (.ret,S))=some (.ret,S):=rfl
theorem ks_seq (a b:LC) (S:LS):ex lf (.seq a b) S=seqK lf b (ex lf a S):=by
 rw [ex_seq]; rfl
theorem seqK_congr (b:LC) {r r':Option (Ex×LS)} (h:r=r'):seqK lf b r=seqK lf b r':=by rw [h]
def regK (kill:List Nat):Option LS→Option (Ex×LS)
 | some S1=>some (.normal,S1.drop kill)
 | none=>none
theorem regK_some (kill:List Nat) (S:LS):regK kill (some S)=some (.normal,S.drop kill):=rfl
theorem regK_congr (kill:List Nat) {r r':Option LS} (h:r=r'):regK kill r=regK kill r':=by rw [h]
theorem ks_region (d:Bool) (ops:List LOp) (kill:List Nat) (S:LS):ex lf (.region d ops kill) S=regK kill (runR (call lf) d ops S):=by
 rw [ex_region,regionL]
 cases runR (call lf) d ops S <;> rfl
noncomputable def condK (x y:LC) (kill:List Nat) (S:LS):DV→Option (Ex×LS)
 | .b true=>ex lf x (S.drop kill)
 | .b false=>ex lf y (S.drop kill)
 | _=>none
theorem condK_t (x y:LC) (kill:List Nat) (S:LS):condK lf x y kill S (.b true)=ex lf x (S.drop kill):=rfl
theorem condK_f (x y:LC) (kill:List Nat) (S:LS):condK lf x y kill S (.b false)=ex lf y (S.drop kill):=rfl
theorem condK_congr (x y:LC) (kill:List Nat) (S:LS) {v v':DV} (h:v=v'):condK lf x y kill S v=condK lf x y kill S v':=by rw [h]
theorem ks_cut (o1:List LOp) (g:Ghost) (o2:List LOp) (kill:List Nat) (S:LS):ex lf (.cut o1 g o2 kill) S=ex lf (.seq (.region false o1 []) (.ghost g (.region false o2 kill))) S:=ex_cut lf o1 g o2 kill S
theorem ks_cond (c:Opd) (kill:List Nat) (x y:LC) (e:Env) (ob:OB):ex lf (.cond c kill x y) ⟨e,ob⟩=condK lf x y kill ⟨e,ob⟩ (opv e c):=by
 rw [ex_cond]
 cases c <;> rfl
def blkK (id:Nat):Option (Ex×LS)→Option (Ex×LS)
 | some (.exit j,S1)=>if j=id then some (.normal,S1) else some (.exit j,S1)
 | r=>r
theorem blkK_n (id:Nat) (S:LS):blkK id (some (.normal,S))=some (.normal,S):=rfl
theorem blkK_r (id:Nat) (S:LS):blkK id (some (.ret,S))=some (.ret,S):=rfl
theorem blkK_e (id j:Nat) (S:LS):blkK id (some (.exit j,S))=if j=id then some (.normal,S) else some (.exit j,S):=rfl
theorem ks_block (id:Nat) (b:LC) (S:LS):ex lf (.block id b) S=blkK id (ex lf b S):=by rw [ex_block]; rfl
def endK (F:LF) (args:List DV):Option (Ex×LS)→Option (DV×List DV)
 | some (.normal,S)=>leave F args S
 | some (.ret,S)=>leave F args S
 | _=>none
theorem endK_n (F:LF) (args:List DV) (S:LS):endK F args (some (.normal,S))=leave F args S:=rfl
theorem endK_r (F:LF) (args:List DV) (S:LS):endK F args (some (.ret,S))=leave F args S:=rfl
theorem endK_congr (F:LF) (args:List DV) {r r':Option (Ex×LS)} (h:r=r'):endK F args r=endK F args r':=by rw [h]
theorem call_k (f:Nat) (args:List DV) {F:LF} (hF:lf f=some F) (hf:some args.length=F.arity):call lf f args=endK F args (ex lf F.body (enter 0 args ⟨gEnv F.gl,[]⟩)):=by
 have hp:F.prim=none:=by
  unfold LF.arity at hf
  cases h:F.prim with
  | none=>rfl
  | some g=>rw [h] at hf; cases hf
 have hn:args.length=F.nparams:=by
  unfold LF.arity at hf
  rw [hp] at hf
  injection hf
 rw [call_eq lf f args hF hn hp]
 cases ex lf F.body (enter 0 args ⟨gEnv F.gl,[]⟩) with
 | none=>rfl
 | some p=>obtain ⟨x,S⟩:=p; cases x <;> rfl
end
end Go.Lg

namespace Go.Lg
variable [GL]
set_option linter.unusedSimpArgs false
set_option linter.unusedVariables false
def allTo (P:Nat→Bool):Nat→Bool
 | 0=>true
 | n+1=>P 0 && allTo (fun i=>P (i+1)) n
theorem allTo_iff {n:Nat}:∀ {P:Nat→Bool},allTo P n=true↔∀ i,i < n→P i=true:=by
 induction n with
 | zero=>intro P; simp [allTo]
 | succ n ih =>
  intro P
  simp only [allTo,Bool.and_eq_true,ih]
  constructor
  ·rintro ⟨h0,h⟩ i hi
   cases i with
   | zero=>exact h0
   | succ i=>exact h i (by omega)
  ·intro h
   exact ⟨h 0 (by omega),fun i hi=>h (i+1) (by omega)⟩
theorem loop_count {lf:Nat→Option LF} {L:LC} (N:Nat):∀ (S:Nat→LS) {x:Ex} {R:LS},(∀ i,i < N→ex lf L (S i)=some (.normal,S (i+1)))→ex lf L (S N)=some (x,R)→x≠.normal→ex lf (.loop L) (S 0)=some (x,R):=by
 induction N with
 | zero =>
  intro S x R _ hN hx
  rw [ex_loop,hN]
  cases x <;> first | rfl | exact absurd rfl hx
 | succ n ih =>
  intro S x R h hN hx
  rw [ex_loop,h 0 (by omega)]
  exact ih (fun i=>S (i+1)) (fun i hi=>h (i+1) (by omega)) hN hx
end Go.Lg
