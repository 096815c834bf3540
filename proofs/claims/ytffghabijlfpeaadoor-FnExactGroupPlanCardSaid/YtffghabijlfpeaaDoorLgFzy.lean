/- Part F of a logical reading of translated Go: what a frame holds is said by lists, and each operation is proved against the model. No conditions. -/
import Derived.Test.YtffghabijlfpeaaDoorLgEzy
import Derived.Test.YtffghabijlfpeaaDoorLgC
set_option linter.unusedSectionVars false
set_option linter.unusedVariables false
set_option linter.unusedSimpArgs false
namespace Go.Lg
set_option linter.unusedSimpArgs false
set_option linter.unusedVariables false
set_option linter.unusedSectionVars false
open Go.RowKit
variable [GL]

def dstsL (ls:List LOp):List Nat:=ls.filterMap (·.dst)
theorem dstsL_cons (l:LOp) (ls:List LOp):dstsL (l :: ls)=l.dst.toList++dstsL ls:=by
 unfold dstsL
 rw [List.filterMap_cons]
 cases h:l.dst with
 | none=>rfl
 | some d=>rfl
def LC.dsts:LC→List Nat
 | .region _ ls _=>dstsL ls
 | .seq a b=>a.dsts++b.dsts
 | .cond _ _ a b=>a.dsts++b.dsts
 | _=>[]
/-- Only regions in their order,one after the other,and branches. -/
def LC.line:LC→Bool
 | .skip | .ret | .exit _=>true
 | .region d _ _=>!d
 | .seq a b=>a.line && b.line
 | .cond _ _ a b=>a.line && b.line
 | _=>false
def Kept (ts:List Nat) (a a':Act):Prop:=(∀ t,t∉ts→tval a' t=tval a t)∧a'.defers=a.defers
theorem Kept.refl (ts:List Nat) (a:Act):Kept ts a a:=⟨fun _ _=>rfl,rfl⟩
theorem Kept.trans {ts us:List Nat} {a b c:Act} (h:Kept ts a b) (k:Kept us b c):Kept (ts++us) a c:=⟨fun t ht=>by
 rw [List.mem_append,not_or] at ht
 rw [k.1 t ht.2,h.1 t ht.1],k.2.trans h.2⟩
theorem Kept.mono {ts us:List Nat} {a b:Act} (h:Kept ts a b) (hs:∀ t∈ts,t∈us):Kept us a b:=⟨fun t ht=>h.1 t (fun q=>ht (hs t q)),h.2⟩
theorem put_tval (a:Act) (d:Option Nat) (v:Value) {t:Nat} (h:d≠some t):tval (a.put d v) t=tval a t:=by
 cases d with
 | none=>rfl
 | some x =>
  have:x≠t:=fun e=>h (by rw [e])
  unfold tval
  split
  ·simp [Act.put,Array.getD_eq_getD_getElem?,Array.getElem?_setIfInBounds,this]
  ·rfl
theorem put_tval_self {a:Act} {d:Nat} (v:Value) (hd:d < a.tmps.size) (h:d < 1048576):tval (a.put (some d) v) d=v:=by
 rw [tval_lt _ h,getD_put a d d v hd,if_pos rfl]
theorem Kept.put (a:Act) (d:Option Nat) (v:Value):Kept d.toList a (a.put d v):=⟨fun t ht=>put_tval a d v (fun e=>ht (by rw [e]; simp)),put_defers a d v⟩
theorem viewOp_dst {P:Program} {ops:Array Oper} {o:Oper} {l:LOp} (h:viewOp P ops o=some l):l.dst=o.dst:=by
 unfold viewOp at h
 repeat' (first | (cases h; done) | (injection h with h; subst h; rfl) | split at h)

section
variable {P:Program} {Γ:Fns} {c:Cx} {N:Nat}

theorem runLX_ok (hΓ:CallOk P Γ) (hF:∀ r∈c.refs,6≤r.1 % 8) {ops:Array Oper} {Q:Exit→Act→World→Prop} {r:Option Nat} {m:Nat}:∀ {os:List Oper} {ls:List LOp} {S S1:LS} {a:Act} {w:World},viewOps P ops os=some ls→(∀ o∈os,Opx o.dst N=true)→St c N S a w →
  runL Γ ls S=some S1→(∀ a' w',St c N S1 a' w'→Kept (dstsL ls) a a'→Q .normal a' w')→wpListIn (Wd r) m P ops Q os a w
 | [],ls,S,S1,a,w,hv,_,hs,he,hQ=>by
  simp only [viewOps,Option.some.injEq] at hv
  subst hv
  simp only [runL,Option.some.injEq] at he
  subst he
  exact wpListIn_nil (hQ _ _ hs (Kept.refl _ _))
 | o :: os,ls,S,S1,a,w,hv,hN,hs,he,hQ=>by
  simp only [viewOps] at hv
  split at hv
  ·rename_i l hl
   split at hv
   ·rename_i ls' hls
    injection hv with hv
    subst hv
    simp only [runL] at he
    split at he
    ·rename_i S2 h2
     have hd:=viewOp_dst hl
     refine wpListIn_step (fun K hK=>?_)
     have hok:=stepL_ok (KK:=K) (Q:=Q) (r:=r) (m:=m) hΓ hF hl (hN o (List.mem_cons_self ..)) hs h2 (fun v w' hs'=>hK _ _ (runLX_ok hΓ hF hls (fun x hx=>hN x (List.mem_cons_of_mem _ hx)) hs' he (fun a' w'' hs'' hk=>hQ a' w'' hs'' (by
      rw [dstsL_cons,hd]
      exact (Kept.put a o.dst v).trans hk))))
     split
     ·rename_i hw; rw [if_pos hw] at hok; exact hok
     ·rename_i hw; rw [if_neg hw] at hok; exact ⟨fun _ _=>trivial,hok⟩
    ·cases he
   ·cases hv
  ·cases hv

/-- As exec_ok,for plain pieces: what they don't write is told too. -/
theorem execX_ok (hΓ:CallOk P Γ) {dc:Array Oper→Bool} {n:Nat}:∀ (lc:LC) (code:Code) {c:Cx} {r:Option Nat} {m:Nat} {S S1:LS} {x:Ex} {a:Act} {w:World} {Q:Exit→Act→World→Prop},lc.line=true→viewC P code=some (strip lc)→okC N dc code=true →
  (∀ r∈c.refs,6≤r.1 % 8)→St c N S a w→exec Γ n lc S=some (x,S1)→(∀ a' w',St c N S1 a' w'→Kept lc.dsts a a'→Q x.to a' w')→code.wpIn (Wd r) m P Q a w
 | .ghost g lc,code,c,r,m,S,S1,x,a,w,Q,hp,hv,hok,hF,hs,he,hQ=>by cases hp
 | .void,code,c,r,m,S,S1,x,a,w,Q,hp,hv,hok,hF,hs,he,hQ=>by cases hp
 | .loop _,code,c,r,m,S,S1,x,a,w,Q,hp,hv,hok,hF,hs,he,hQ=>by cases hp
 | .block _ _,code,c,r,m,S,S1,x,a,w,Q,hp,hv,hok,hF,hs,he,hQ=>by cases hp
 | .cut ..,code,c,r,m,S,S1,x,a,w,Q,hp,hv,hok,hF,hs,he,hQ=>by cases hp
 | .back ..,code,c,r,m,S,S1,x,a,w,Q,hp,hv,hok,hF,hs,he,hQ=>by cases hp
 | .skip,code,c,r,m,S,S1,x,a,w,Q,hp,hv,hok,hF,hs,he,hQ=>by
  simp only [exec,Option.some.injEq,Prod.mk.injEq] at he
  obtain ⟨rfl,rfl⟩:=he
  cases code <;> simp only [viewC,strip] at hv <;> try (repeat' (first | (simp at hv; done) | (exact (viewB_off hv rfl).elim) | split at hv))
  exact wpIn_skip (hQ _ _ hs (Kept.refl _ _))
 | .ret,code,c,r,m,S,S1,x,a,w,Q,hp,hv,hok,hF,hs,he,hQ=>by
  simp only [exec,Option.some.injEq,Prod.mk.injEq] at he
  obtain ⟨rfl,rfl⟩:=he
  cases code <;> simp only [viewC,strip] at hv <;> try (repeat' (first | (simp at hv; done) | (exact (viewB_off hv rfl).elim) | split at hv))
  exact wpIn_ret (hQ _ _ hs (Kept.refl _ _))
 | .exit id,code,c,r,m,S,S1,x,a,w,Q,hp,hv,hok,hF,hs,he,hQ=>by
  simp only [exec,Option.some.injEq,Prod.mk.injEq] at he
  obtain ⟨rfl,rfl⟩:=he
  cases code <;> simp only [viewC,strip] at hv <;> try (repeat' (first | (simp at hv; done) | (exact (viewB_off hv rfl).elim) | split at hv))
  rename_i id'
  simp only [Option.some.injEq,LC.exit.injEq] at hv
  subst hv
  exact wpIn_exit (hQ _ _ hs (Kept.refl _ _))
 | .region d ls kill,code,c,r,m,S,S1,x,a,w,Q,hp,hv,hok,hF,hs,he,hQ=>by
  simp only [LC.line,Bool.not_eq_true'] at hp
  subst hp
  simp only [exec] at he
  cases hr:regionL Γ false ls kill S with
  | none=>rw [hr] at he; simp at he
  | some S2 =>
   rw [hr] at he
   simp only [Option.map_some,Option.some.injEq,Prod.mk.injEq] at he
   obtain ⟨rfl,rfl⟩:=he
   unfold regionL at hr
   split at hr
   ·rename_i S3 h3
    injection hr with hr
    subst hr
    cases code <;> simp only [viewC,strip] at hv <;> try (repeat' (first | (simp at hv; done) | (exact (viewB_off hv rfl).elim) | split at hv))
    rename_i id ops draw _ ls' hls
    simp only [Option.some.injEq,LC.region.injEq] at hv
    obtain ⟨rfl,rfl,_⟩:=hv
    simp only [okC,Bool.and_eq_true,List.all_eq_true,Bool.or_eq_true,Bool.not_eq_true'] at hok
    exact wpIn_region_list (runLX_ok hΓ hF hls hok.1 hs h3 (fun a' w' h hk=>hQ _ _ (h.drop kill) hk))
   ·cases hr
 | .seq l1 l2,code,c,r,m,S,S1,x,a,w,Q,hp,hv,hok,hF,hs,he,hQ=>by
  simp only [LC.line,Bool.and_eq_true] at hp
  cases code <;> simp only [viewC,strip] at hv <;> try (repeat' (first | (simp at hv; done) | (exact (viewB_off hv rfl).elim) | split at hv))
  rename_i c1 c2 _ x1 hx1 _ x2 hx2
  simp only [Option.some.injEq,LC.seq.injEq] at hv
  obtain ⟨rfl,rfl⟩:=hv
  simp only [okC,Bool.and_eq_true] at hok
  simp only [exec] at he
  cases h1:exec Γ n l1 S with
  | none=>rw [h1] at he; cases he
  | some p =>
   obtain ⟨x',S2⟩:=p
   rw [h1] at he
   refine wpIn_seq (execX_ok hΓ l1 c1 hp.1 hx1 hok.1 hF hs h1 (fun a' w' h hk=>?_))
   cases x' with
   | normal=>exact execX_ok hΓ l2 c2 hp.2 hx2 hok.2 hF h he (fun a'' w'' h' hk'=>hQ _ _ h' (hk.trans hk'))
   | exit id =>
    simp only [Option.some.injEq,Prod.mk.injEq] at he
    obtain ⟨rfl,rfl⟩:=he
    exact hQ _ _ h (hk.mono (fun t ht=>List.mem_append_left _ ht))
   | ret =>
    simp only [Option.some.injEq,Prod.mk.injEq] at he
    obtain ⟨rfl,rfl⟩:=he
    exact hQ _ _ h (hk.mono (fun t ht=>List.mem_append_left _ ht))
 | .cond q kill l1 l2,code,c,r,m,S,S1,x,a,w,Q,hp,hv,hok,hF,hs,he,hQ=>by
  simp only [LC.line,Bool.and_eq_true] at hp
  cases code <;> simp only [viewC,strip] at hv <;> try (repeat' (first | (simp at hv; done) | (exact (viewB_off hv rfl).elim) | split at hv))
  rename_i cc c1 c2 _ q' hq _ x1 hx1 _ x2 hx2
  simp only [Option.some.injEq,LC.cond.injEq] at hv
  obtain ⟨rfl,_,rfl,rfl⟩:=hv
  simp only [okC,Bool.and_eq_true] at hok
  simp only [exec] at he
  obtain ⟨O,hm,hsr,_,_⟩:=id hs
  have hcv:=viewOpd_ok hsr hq
  split at he
  ·rename_i hb
   rw [hb] at hcv
   exact wpIn_cond_true hcv.bool (execX_ok hΓ l1 c1 hp.1 hx1 hok.1 hF (hs.drop kill) he (fun a' w' h hk=>hQ _ _ h (hk.mono (fun t ht=>List.mem_append_left _ ht))))
  ·rename_i hb
   rw [hb] at hcv
   exact wpIn_cond_false hcv.bool (execX_ok hΓ l2 c2 hp.2 hx2 hok.2 hF (hs.drop kill) he (fun a' w' h hk=>hQ _ _ h (hk.mono (fun t ht=>List.mem_append_right _ ht))))
  ·cases he
end

def Zk (ok:Nat→Prop):OkT:=⟨ok,fun _ _ _=>False⟩
structure Fact where
 t:Nat
 B:Nat
 ok:Nat→Prop
 d:DV
/-- A value and what is said of it: a struct is said field by field. -/
def XR (w:World) (B:Nat) (ok:OkT) (d:DV) (v:Value):Prop:=CR w B ok d v∨∃ (cs:List DV) (vs:Array Value),d=.st cs∧v=.agg vs∧CRs w B ok cs vs.toList
theorem XR.vr {w:World} {B:Nat} {ok:OkT} {O:OM} {d:DV} {v:Value} (h:XR w B ok d v):VR w B ok O d v:=by
 rcases h with h | ⟨cs,vs,rfl,rfl,h⟩
 ·exact .cr _ _ h
 ·exact .st _ _ h
theorem CRs.keep {w w':World} {B:Nat} {ok ok':OkT} {cs:List DV} {xs:List Value} (h:CRs w B ok cs xs)
  (hw:∀ b,ok b→b < w.heap.size→w'.heap[b]?=w.heap[b]?) (hs:w.heap.size≤w'.heap.size) (hok:∀ b,ok b→b < w.heap.size→ok' b) (hL:∀ j n u,ok.lnk j n u→ok'.lnk j n u):CRs w' B ok' cs xs :=
 ⟨h.1,fun j c u h1 h2=>(h.2 j c u h1 h2).keep hw hs hok hL rfl⟩
theorem XR.keep {w w':World} {B:Nat} {ok ok':OkT} {d:DV} {v:Value} (h:XR w B ok d v)
  (hw:∀ b,ok b→b < w.heap.size→w'.heap[b]?=w.heap[b]?) (hs:w.heap.size≤w'.heap.size) (hok:∀ b,ok b→b < w.heap.size→ok' b) (hL:∀ j n u,ok.lnk j n u→ok'.lnk j n u):XR w' B ok' d v:=by
 rcases h with h | ⟨cs,vs,rfl,rfl,h⟩
 ·exact .inl (h.keep hw hs hok hL rfl)
 ·exact .inr ⟨cs,vs,rfl,rfl,h.keep hw hs hok hL⟩
theorem XR.lend_ {w:World} {B:Nat} {ok ok':OkT} {d:DV} {v:Value} (h:XR w B ok d v) (hok:∀ b,ok b→b < w.heap.size→ok' b):XR w w.heap.size ok' d.lend v:=by
 rcases h with h | ⟨cs,vs,rfl,rfl,h⟩
 ·exact .inl (h.lend_ true (.inl rfl) (fun b h1 h2 _=>hok b h1 h2))
 ·exact .inr ⟨lendL cs,vs,rfl,rfl,h.lend_ true (.inl rfl) (fun b h1 h2 _=>hok b h1 h2)⟩
def Fact.So (f:Fact) (a:Act) (w:World):Prop:=XR w f.B (Zk f.ok) f.d (tval a f.t)
structure Seam (wI:World) (N:Nat) (fs:List Fact) (a:Act) (w:World):Prop where
 os:w.os=wI.os
 tape:w.tape=wI.tape
 output:w.output=wI.output
 size:wI.heap.size≤w.heap.size
 low:∀ b,b < wI.heap.size→w.heap[b]?=wI.heap[b]?
 glob:GlobC ⟨wI,fun _=>True,[]⟩
 len:a.tmps.size=N
 dfs:a.defers=[]
 so:∀ f∈fs,f.So a w
def envF (fs:List Fact):Env:=fs.map fun f=>(f.t,f.d.lend)
theorem envF_look:∀ (fs:List Fact) (t:Nat),look (envF fs) t=.dead∨∃ f∈fs,f.t=t∧look (envF fs) t=f.d.lend
 | [],t=>.inl rfl
 | f :: fs,t=>by
  by_cases h:f.t=t
  ·exact .inr ⟨f,List.mem_cons_self ..,h,by simp [envF,look,h]⟩
  ·have e:look (envF (f :: fs)) t=look (envF fs) t:=by simp [envF,look,h]
   rw [e]
   rcases envF_look fs t with h1 | ⟨g,h1,h2,h3⟩
   ·exact .inl h1
   ·exact .inr ⟨g,List.mem_cons_of_mem _ h1,h2,h3⟩

section
variable {P:Program} {Γ:Fns} {N:Nat} {wI w:World} {fs:List Fact} {a:Act}

theorem Seam.globs (h:Seam wI N fs a w):GlobC ⟨w,fun _=>True,[]⟩:=by
 intro r hr
 obtain ⟨h1,h2,h3,xs,h4,h5⟩:=h.glob r hr
 refine ⟨Nat.lt_of_lt_of_le h1 h.size,trivial,fun q hq=>(by cases hq),xs,fun j u hu=>?_,h5⟩
 rw [← h4 j u hu]
 refine World.cell?_of_block ?_
 rw [block_add]
 exact h.low _ h1
theorem Seam.st (h:Seam wI N fs a w):St ⟨w,fun _=>True,[]⟩ N ⟨envF fs,[]⟩ a w:=by
 refine ⟨fun _=>none,⟨rfl,rfl,rfl,Nat.le_refl _,fun _ _ _=>rfl,fun k=>(by simp [lookO]),fun k p es hk=>(by cases hk),fun k k2 p p2 g hk=>(by cases hk),fun k p g hk=>(by cases hk),fun k p hk=>(by cases hk),fun r hr=>(by cases hr),h.globs⟩,fun t=>?_,by rw [h.dfs]; exact Dfs.nil _ _,h.len⟩
 rcases envF_look fs t with e | ⟨f,hf,rfl,e⟩
 ·rw [e]; exact .dead _
 ·rw [e]
  exact ((h.so f hf).lend_ (fun b _ _=>ok_top _ b)).vr
/-- A piece of the code from seam to seam. -/
theorem Seam.exec (h:Seam wI N fs a w) (hΓ:CallOk P Γ) {dc:Array Oper→Bool} {n:Nat} {lc:LC} {code:Code} (hl:lc.line=true) (hv:viewC P code=some (strip lc)) (hok:okC N dc code=true) {x:Ex} {S1:LS} (he:Lg.exec Γ n lc ⟨envF fs,[]⟩=some (x,S1)) {r:Option Nat} {m:Nat} {Q:Exit→Act→World→Prop}
  (hQ:∀ a' w',Seam wI N (fs.filter fun f=>!(lc.dsts.contains f.t)) a' w'→Below w.heap.size w w'→St ⟨w,fun _=>True,[]⟩ N S1 a' w'→Kept lc.dsts a a'→Q x.to a' w'):code.wpIn (Wd r) m P Q a w:=by
 refine execX_ok hΓ lc code hl hv hok (fun r hr=>by cases hr) h.st he (fun a' w' hs hk=>?_)
 obtain ⟨O,hm,hsr,hdf,hsz⟩:=id hs
 refine hQ a' w' ⟨hm.os.trans h.os,hm.tape.trans h.tape,hm.output.trans h.output,Nat.le_trans h.size hm.size,fun b hb=>?_,h.glob,hsz,by rw [hk.2]; exact h.dfs,fun f hf=>?_⟩ ⟨hm.os,hm.tape,hm.output,hm.size,fun b hb=>hm.frame b hb (fun r hr=>by cases hr)⟩ hs hk
 ·exact (hm.frame b (Nat.lt_of_lt_of_le hb h.size) (fun r hr=>by cases hr)).trans (h.low b hb)
 ·obtain ⟨hf1,hf2⟩:=List.mem_filter.1 hf
  have ht:f.t∉lc.dsts:=by simpa using hf2
  unfold Fact.So
  rw [hk.1 f.t ht]
  exact (h.so f hf1).keep (fun b _ hb=>hm.frame b hb (fun r hr=>by cases hr)) hm.size (fun b hb _=>hb) (fun _ _ _ h=>h)
/-- What a piece has made. -/
theorem St.fact {S:LS} {a':Act} {w':World} (hs:St ⟨w,fun _=>True,[]⟩ N S a' w') (t:Nat) {d':DV} {ob':OB} (h:settle S.ob (look S.sl t)=some (d',ob')) (hn:d'.allNew=true) (ha:d'.adopt false=d') (hst:∀ cs,d'≠.st cs) :
  Fact.So ⟨t,w.heap.size,fun b=>w.heap.size≤b∧b < w'.heap.size,d'⟩ a' w':=by
 obtain ⟨O,hm,hsr,_⟩:=hs
 obtain ⟨O',hm',_,hc,hcr,_⟩:=settle_ok hm (hsr t) h
 rcases hcr with ⟨cs,hcs⟩ | hcr
 ·exact absurd hcs (hst cs)
 ·have:=hcr.adopt_ false (Nat.le_refl _) false (.inr hn) (fun h=>by cases h) (ok':=Zk fun b=>w.heap.size≤b∧b < w'.heap.size) (fun b _ hb h=>by
   rcases h with h | h
   ·cases h
   ·exact ⟨h,hb⟩)
  rw [ha] at this
  exact .inl this
theorem St.scal {S:LS} {a':Act} {w':World} {c:Cx} (hs:St c N S a' w') (t:Nat) {d:DV} (h:look S.sl t=d) (hd:(∃ n,d=.i n)∨(∃ b,d=.b b)) (B:Nat) (ok:Nat→Prop):Fact.So ⟨t,B,ok,d⟩ a' w':=by
 obtain ⟨O,hm,hsr,_⟩:=hs
 have hv:=hsr t
 rw [h] at hv
 rcases hd with ⟨n,rfl⟩ | ⟨b,rfl⟩
 ·refine .inl ?_
  show CR w' B (Zk ok) (.i n) (tval a' t)
  rw [hv.int]
  exact .i n
 ·refine .inl ?_
  show CR w' B (Zk ok) (.b b) (tval a' t)
  rw [hv.bool]
  exact .b b
theorem Seam.sub (h:Seam wI N fs a w) {gs:List Fact} (hg:∀ g∈gs,g.So a w):Seam wI N gs a w:=⟨h.os,h.tape,h.output,h.size,h.low,h.glob,h.len,h.dfs,hg⟩
end

/-- The heap is changed at those blocks only. -/
structure Chg (ok:Nat→Prop) (w w':World):Prop where
 os:w'.os=w.os
 tape:w'.tape=w.tape
 output:w'.output=w.output
 size:w.heap.size≤w'.heap.size
 heap:∀ b,b < w.heap.size→¬ ok b→w'.heap[b]?=w.heap[b]?
/-- A function that marks a value within its blocks,from a number on. -/
def Marks (P:Program) (f:FuncId) (d:DV) (k:Int) (R:DV→Prop) (k':Int):Prop:=hasBody P f=true ∧
 ∀ (w:World) (B:Nat) (ok:Nat→Prop) (v:Value),(∀ b,ok b→B≤b)→XR w B (Zk ok) d v→GlobC ⟨w,fun _=>True,[]⟩→(∀ r∈GL.gl,r.1 < B) →
  Calls P f #[v,.int .i64 k] w fun e w'=>e=.returned (.int .i64 k')∧Chg ok w w'∧∃ d',R d'∧XR w' B (Zk ok) d' v
theorem Marks.mono {P:Program} {f:FuncId} {d:DV} {k k':Int} {R R':DV→Prop} (h:Marks P f d k R k') (hR:∀ d,R d→R' d):Marks P f d k R' k' :=
 ⟨h.1,fun w B ok v h1 h2 h3 h4=>(h.2 w B ok v h1 h2 h3 h4).mono fun e w' ⟨q1,q2,d',q3,q4⟩=>⟨q1,q2,d',hR d' q3,q4⟩⟩
end Go.Lg

namespace Go.Lg
set_option linter.unusedSimpArgs false
set_option linter.unusedVariables false
set_option linter.unusedSectionVars false
open Go.RowKit
variable [GL]
section
variable {P:Program} {Γ:Fns} {N:Nat} {wI w:World} {fs:List Fact} {a:Act}

theorem viewBin_mv {op:BinOp} {t:TypeId}:viewBin P op t≠some .mv:=by
 intro h
 unfold viewBin at h
 split at h <;> try (cases h; done)
 ·split at h <;> cases h
 ·split at h
  ·split at h <;> cases h
  ·cases h
theorem viewConv_mv {s t:TypeId} {d:Nat}:viewConv P s t d≠some .mv:=by
 intro h
 unfold viewConv at h
 split at h <;> first | (cases h; done) | (split at h <;> cases h)
theorem viewK_mv {o:Oper} {xs:List Operand} (hv:viewK P o=some (.mv,xs)):∃ x,xs=[x]∧(o.op=.move x∨o.op=.assign x):=by
 cases hop:o.op with
 | move x =>
  simp only [viewK,hop,Option.some.injEq,Prod.mk.injEq] at hv
  exact ⟨x,hv.2.symm,.inl rfl⟩
 | assign x =>
  simp only [viewK,hop] at hv
  split at hv
  ·split at hv
   ·simp only [Option.some.injEq,Prod.mk.injEq] at hv
    exact ⟨_,hv.2.symm,.inr rfl⟩
   ·split at hv
    ·simp only [Option.map_eq_some_iff,Prod.mk.injEq] at hv
     obtain ⟨_,_,h,_⟩:=hv
     cases h
    ·cases hv
  ·simp only [Option.some.injEq,Prod.mk.injEq] at hv
   exact ⟨_,hv.2.symm,.inr rfl⟩
 | call cl =>
  exfalso
  simp only [viewK,hop,viewCall] at hv
  repeat' (first | (simp at hv; done) | split at hv | (injection hv with hv; simp only [Prod.mk.injEq] at hv; obtain ⟨h1,rfl⟩:=hv; unfold callK at h1; repeat' (first | (cases h1; done) | split at h1)))
 | binOp op t x y yt =>
  exfalso
  simp only [viewK,hop] at hv
  split at hv
  ·simp at hv
  simp only [Option.map_eq_some_iff,Prod.mk.injEq] at hv
  obtain ⟨k',hk,rfl,_⟩:=hv
  exact absurd hk viewBin_mv
 | convert s t x =>
  exfalso
  simp only [viewK,hop] at hv
  split at hv
  ·simp only [Option.map_eq_some_iff,Prod.mk.injEq] at hv
   obtain ⟨k',hk,rfl,_⟩:=hv
   exact absurd hk viewConv_mv
  ·cases hv
 | makeFunc fn first cap =>
  exfalso
  cases fn <;> simp only [viewK,hop] at hv <;> repeat' (first | (simp at hv; done) | split at hv)
 | _ =>
  exfalso
  simp only [viewK,hop] at hv
  repeat' (first | (simp at hv; done) | split at hv)
theorem step_mv {o:Oper} {x:Operand} (ho:o.op=.move x∨o.op=.assign x) {KK:Act→World→Prop} {Q:Exit→Act→World→Prop} {r:Option Nat} {m:Nat} (h:KK (a.put o.dst (a.eval x)) w):o.wpIn (Wd r) m P a w KK Q:=by
 refine ⟨fun _ _=>trivial,?_⟩
 rw [Oper.semAt_eq _ _ _ (fun c hc=>by rcases ho with h | h <;> rw [h] at hc <;> cases hc)]
 have hr:(execOp a.eval o).run P w=.ok (.value (a.eval x)) w:=by rcases ho with h | h <;> simp [execOp,h]
 rw [hr]
 exact h
theorem step_call {o:Oper} {f id:Nat} {xs:List Operand} (hv:viewK P o=some (.call f id,xs)) (hb:hasBody P f=true) {KK:Act→World→Prop} {Q:Exit→Act→World→Prop} {r:Option Nat} {m:Nat}
  (hc:Calls P f (xs.map a.eval).toArray w fun e w'=>∃ v,e=.returned v∧KK (a.put o.dst v) w'):o.wpIn (Wd r) m P a w KK Q:=by
 obtain ⟨cl,hop,hcal,rfl⟩:=viewK_call hv
 have e:(cl.args.toList.map a.eval).toArray=cl.args.map a.eval:=by
  apply Array.ext'
  rw [Array.toList_map]
 rw [e] at hc
 unfold hasBody at hb
 split at hb
 ·rename_i fn hfn
  simp only [Bool.and_eq_true,Bool.not_eq_true'] at hb
  have hrun:(execOp a.eval o).run P w=.ok (.enter f (cl.args.map a.eval)) w:=by
   have hbn:¬ fn.body=none:=by intro h; rw [h] at hb; simp at hb
   have hne : ¬ fn.name = "runtime.NumGoroutine" := by have := hb.2; simpa using this
   simp [execOp,hop,resolve,hcal,Act.eval,Deferred.ofValue,invoke,callFunc,hfn,hne,hbn]
  refine ⟨fun _ _=>trivial,?_⟩
  rw [Oper.semAt_eq _ _ _ (viewK_nd hv),hrun,Oper.uponIn_enter]
  refine ⟨fun h=>(by cases h),(wd_calls hc).mono ?_⟩
  intro e w' ⟨v,he,hk⟩
  subst he
  exact hk
 ·cases hb
theorem viewOp_plain {ops:Array Oper} {o:Oper} {l:LOp} (h:viewOp P ops o=some l) (hg:l.g=none):o.dst=l.dst∧(∃ xs,viewK P o=some (l.k,xs)∧viewOpds xs=some l.args)∧∀ tm,Region.wanted o tm=true:=by
 unfold viewOp at h
 split at h
 ·rename_i k xs hk
  split at h
  ·rename_i ys hys
   split at h
   ·rename_i hgu
    injection h with h
    subst h
    exact ⟨rfl,⟨xs,hk,hys⟩,fun tm=>by simp [Region.wanted,hgu]⟩
   ·split at h
    ·injection h with h
     subst h
     cases hg
    ·cases h
  ·cases h
 ·cases h
theorem eval_t {x:Operand} {t:Nat} (h:viewOpd x=some (.t t)):a.eval x=tval a t:=by
 cases x with
 | tmp s =>
  simp only [viewOpd] at h
  split at h
  ·rename_i hs
   injection h with h
   injection h with h
   subst h
   rw [tval_lt _ hs]
   rfl
  ·cases h
 | const v =>
  simp only [viewOpd,Option.map_eq_some_iff] at h
  obtain ⟨_,_,h⟩:=h
  cases h
 | global g =>
  simp only [viewOpd,Option.some.injEq,Opd.t.injEq] at h
  subst h
  unfold tval gslot
  rw [if_neg (by omega),show 1048576+g - 1048576=g by omega]
  rfl
 | func f =>
  simp only [viewOpd,Option.some.injEq] at h
  cases h
theorem viewOpds_one {xs:List Operand} {y:Opd} (h:viewOpds xs=some [y]):∃ x,xs=[x]∧viewOpd x=some y:=by
 cases xs with
 | nil=>simp [viewOpds] at h
 | cons x xs =>
  simp only [viewOpds] at h
  split at h
  ·rename_i z hz
   split at h
   ·rename_i zs hzs
    injection h with h
    injection h with h1 h2
    subst h1
    subst h2
    cases xs with
    | nil=>exact ⟨x,rfl,hz⟩
    | cons u us =>
     simp only [viewOpds] at hzs
     split at hzs
     ·split at hzs <;> cases hzs
     ·cases hzs
   ·cases h
  ·cases h
theorem viewOpds_two {xs:List Operand} {y z:Opd} (h:viewOpds xs=some [y,z]):∃ x u,xs=[x,u]∧viewOpd x=some y∧viewOpd u=some z:=by
 cases xs with
 | nil=>simp [viewOpds] at h
 | cons x xs =>
  simp only [viewOpds] at h
  split at h
  ·rename_i z' hz
   split at h
   ·rename_i zs hzs
    injection h with h
    injection h with h1 h2
    subst h1
    subst h2
    obtain ⟨u,rfl,hu⟩:=viewOpds_one hzs
    exact ⟨x,u,rfl,hz,hu⟩
   ·cases h
  ·cases h
theorem opx_lt {d N:Nat} (h:Opx (some d) N=true):d < N∧d < 1048576:=by simpa [Opx] using h
theorem XR.int {B:Nat} {ok:OkT} {n:Int} {v:Value} (h:XR w B ok (.i n) v):v=.int .i64 n:=by
 rcases h with h | ⟨_,_,h,_⟩
 ·cases h; rfl
 ·cases h

/-- A call that marks: 'x2,k2' are the copies that are handed over,'r' is what comes back. -/
theorem Seam.mark (h:Seam wI N fs a w) {dc:Array Oper→Bool} {code:Code} {x x2 k k2 r f id:Nat} {kill:List Nat}
  (hv:viewC P code=some (strip (.region false [⟨some x2,.mv,[.t x],none⟩,⟨some k2,.mv,[.t k],none⟩,⟨some r,.call f id,[.t x2,.t k2],none⟩,⟨some k,.mv,[.t r],none⟩] kill))) (hok:okC N dc code=true)
  {B:Nat} {ok:Nat→Prop} {d:DV} (hx:Fact.So ⟨x,B,ok,d⟩ a w) {n n':Int} {Bk:Nat} {okk:Nat→Prop} (hk:Fact.So ⟨k,Bk,okk,.i n⟩ a w) {R:DV→Prop} (hM:Marks P f d n R n')
  (hB:wI.heap.size≤B) (hokB:∀ b,ok b→B≤b) (hd:x2≠k2∧x≠x2∧x≠k2∧x≠r∧x≠k∧k≠x2∧k2≠x2∧r≠k) {gs:List Fact} (hg:∀ g∈gs,g.So a w∧g.t≠x2∧g.t≠k2∧g.t≠r∧g.t≠k∧∀ b,g.ok b→b < w.heap.size→¬ ok b)
  {rr:Option Nat} {m:Nat} {Q:Exit→Act→World→Prop} (hQ:∀ a' w' d',R d'→Seam wI N (⟨x,B,ok,d'⟩ :: ⟨k,Bk,okk,.i n'⟩ :: gs) a' w'→w.heap.size≤w'.heap.size→Q .normal a' w'):code.wpIn (Wd rr) m P Q a w:=by
 cases code <;> simp only [viewC,strip] at hv <;> try (repeat' (first | (simp at hv; done) | (exact (viewB_off hv rfl).elim) | split at hv))
 rename_i cid ops draw _ ls hls
 simp only [Option.some.injEq,LC.region.injEq,and_true] at hv
 obtain ⟨rfl,rfl⟩:=hv
 simp only [okC,Bool.and_eq_true,List.all_eq_true] at hok
 have hok:=hok.1
 obtain ⟨o1,os1,e1,v1,hls⟩:=viewOps_cons hls
 obtain ⟨o2,os2,rfl,v2,hls⟩:=viewOps_cons hls
 obtain ⟨o3,os3,rfl,v3,hls⟩:=viewOps_cons hls
 obtain ⟨o4,os4,rfl,v4,hls⟩:=viewOps_cons hls
 have:=viewOps_nil hls
 subst this
 rw [e1] at hok
 have k1:=hok o1 (by simp)
 have k2':=hok o2 (by simp)
 have k3:=hok o3 (by simp)
 have k4:=hok o4 (by simp)
 obtain ⟨d1,⟨xs1,q1,p1⟩,w1⟩:=viewOp_plain v1 rfl
 obtain ⟨d2,⟨xs2,q2,p2⟩,w2⟩:=viewOp_plain v2 rfl
 obtain ⟨d3,⟨xs3,q3,p3⟩,w3⟩:=viewOp_plain v3 rfl
 obtain ⟨d4,⟨xs4,q4,p4⟩,w4⟩:=viewOp_plain v4 rfl
 simp only at d1 d2 d3 d4 q1 q2 q3 q4 p1 p2 p3 p4
 rw [d1] at k1
 rw [d2] at k2'
 rw [d3] at k3
 rw [d4] at k4
 have k1:=opx_lt k1
 have k2':=opx_lt k2'
 have k3:=opx_lt k3
 have k4:=opx_lt k4
 obtain ⟨y1,rfl,o1p⟩:=viewK_mv q1
 obtain ⟨y2,rfl,o2p⟩:=viewK_mv q2
 obtain ⟨y4,rfl,o4p⟩:=viewK_mv q4
 obtain ⟨_,hy,p1⟩:=viewOpds_one p1
 simp only [List.cons.injEq,and_true] at hy
 subst hy
 obtain ⟨_,hy,p2⟩:=viewOpds_one p2
 simp only [List.cons.injEq,and_true] at hy
 subst hy
 obtain ⟨_,hy,p4⟩:=viewOpds_one p4
 simp only [List.cons.injEq,and_true] at hy
 subst hy
 obtain ⟨z1,z2,rfl,p3a,p3b⟩:=viewOpds_two p3
 obtain ⟨g1,g2,g3,g4,g5,g6,g7,g8⟩:=hd
 refine wpIn_region_list ?_
 rw [e1]
 refine wpListIn_step (fun K hK=>?_)
 rw [if_pos (w1 _)]
 refine step_mv o1p (hK _ _ ?_)
 rw [d1,eval_t p1]
 refine wpListIn_step (fun K hK=>?_)
 rw [if_pos (w2 _)]
 refine step_mv o2p (hK _ _ ?_)
 rw [d2,eval_t p2,put_tval _ _ _ (by simpa using g6.symm)]
 refine wpListIn_step (fun K hK=>?_)
 rw [if_pos (w3 _)]
 have hkv:tval a k=.int .i64 n:=(show XR w Bk (Zk okk) (.i n) (tval a k) from hk).int
 rw [hkv]
 have s1:(a.put (some x2) (tval a x)).tmps.size=N:=by rw [put_size,h.len]
 refine step_call q3 hM.1 ?_
 have ev:([z1,z2].map ((a.put (some x2) (tval a x)).put (some k2) (.int .i64 n)).eval).toArray=#[tval a x,.int .i64 n]:=by
  simp only [List.map_cons,List.map_nil]
  rw [eval_t p3a,eval_t p3b,put_tval _ _ _ (by simpa using g7),put_tval_self _ (by rw [h.len]; exact k1.1) k1.2,put_tval_self _ (by rw [s1]; exact k2'.1) k2'.2]
 rw [ev]
 refine (hM.2 w B ok (tval a x) hokB hx h.globs (fun q hq=>Nat.lt_of_lt_of_le (h.glob q hq).1 hB)).mono ?_
 rintro e w' ⟨rfl,hc,d',hR,hx'⟩
 refine ⟨_,rfl,hK _ _ ?_⟩
 rw [d3]
 refine wpListIn_step (fun K hK=>?_)
 rw [if_pos (w4 _)]
 refine step_mv o4p (hK _ _ (wpListIn_nil ?_))
 have s2:((a.put (some x2) (tval a x)).put (some k2) (.int .i64 n)).tmps.size=N:=by rw [put_size,s1]
 have s3:(((a.put (some x2) (tval a x)).put (some k2) (.int .i64 n)).put (some r) (.int .i64 n')).tmps.size=N:=by rw [put_size,s2]
 rw [d4,eval_t p4,put_tval_self _ (by rw [s2]; exact k3.1) k3.2]
 have kp:∀ t,t≠x2→t≠k2→t≠r→t≠k→tval ((((a.put (some x2) (tval a x)).put (some k2) (.int .i64 n)).put (some r) (.int .i64 n')).put (some k) (.int .i64 n')) t=tval a t:=fun t h1 h2 h3 h4=>by
  rw [put_tval _ _ _ (by simpa using h4.symm),put_tval _ _ _ (by simpa using h3.symm),put_tval _ _ _ (by simpa using h2.symm),put_tval _ _ _ (by simpa using h1.symm)]
 refine hQ _ _ d' hR ⟨hc.os.trans h.os,hc.tape.trans h.tape,hc.output.trans h.output,Nat.le_trans h.size hc.size,fun b hb=>?_,h.glob,by rw [put_size,s3],by rw [put_defers,put_defers,put_defers,put_defers]; exact h.dfs,fun g hg'=>?_⟩ hc.size
 ·rw [hc.heap b (Nat.lt_of_lt_of_le hb h.size) (fun q=>by have:=hokB b q; omega)]
  exact h.low b hb
 ·rcases List.mem_cons.1 hg' with rfl | hg'
  ·unfold Fact.So
   rw [kp x g2 g3 g4 g5]
   exact hx'
  rcases List.mem_cons.1 hg' with rfl | hg'
  ·unfold Fact.So
   rw [put_tval_self _ (by rw [s3]; exact k4.1) k4.2]
   exact .inl (.i n')
  ·obtain ⟨c1,c2,c3,c4,c5,c6⟩:=hg g hg'
   unfold Fact.So
   rw [kp g.t c2 c3 c4 c5]
   exact c1.keep (fun b hb hlt=>hc.heap b hlt (c6 b hb hlt)) hc.size (fun b hb _=>hb) (fun _ _ _ h=>h)
end
end Go.Lg

namespace Go.Lg
set_option linter.unusedSimpArgs false
set_option linter.unusedVariables false
set_option linter.unusedSectionVars false
open Go.RowKit
variable [GL]
section
variable {P:Program} {Γ:Fns} {N:Nat}

theorem giveBack_i {ob ob1:OB} {d:DV} {n:Int} (h:giveBack ob d=some (.i n,ob1)):d=.i n:=by
 cases d with
 | i y=>simp only [giveBack,Option.some.injEq,Prod.mk.injEq] at h; exact h.1
 | _ =>
  exfalso
  unfold giveBack at h
  repeat' (first | (simp at h; done) | (simp_all; done) | split at h)
theorem Ret.int {c:Cx} {args cs:List DV} {n:Int} {v:Value} {w':World} (h:Ret c args (.i n,cs) v w'):v=.int .i64 n:=by
 obtain ⟨O,ob,ob2,raws,vals,rs,hm,hl,hvr,hv,hgb,_,hr⟩:=h
 obtain ⟨_,gnt,glen⟩:=giveBackL_sub hgb
 match rs,glen,hr with
 | [x],glen,hr =>
  match raws,glen with
  | [d0],_ =>
   match vals,hl with
   | [u],_ =>
    simp only [giveBackL] at hgb
    split at hgb
    ·rename_i e1 ob1 hg1
     injection hgb with hgb
     simp only [Prod.mk.injEq,List.cons.injEq,and_true] at hgb
     obtain ⟨rfl,rfl⟩:=hgb
     have hx:e1=.i n:=hr.symm
     subst hx
     have hd:=giveBack_i hg1
     subst hd
     have hu:=(hvr 0 _ u rfl rfl).int
     rw [hv]
     exact hu
    ·cases hgb
 | [],_,hr=>cases hr
 | _ :: _ :: _,_,hr=>cases hr
/-- Nothing to mark. -/
theorem marks_nil {f:FuncId} {k:Int} (hb:hasBody P f=true) (hC:CallSpec P f [.sl 0 [],.i k] (.i k,[])):Marks P f (.sl 1 []) k (·=.sl 1 []) k:=by
 refine ⟨hb,fun w B ok v hok hx hg ht=>?_⟩
 have hcr:CR w B (Zk ok) (.sl 1 []) v:=by
  rcases hx with h | ⟨_,_,h,_⟩
  ·exact h
  ·cases h
 cases hcr with
 | sl0 p A cap hm =>
  have hE:Entry w (fun _=>True) [] (fun _=>none) [.sl 0 [],.i k] #[.slice A 0 cap,.int .i64 k]:=entry_top hg rfl (fun d hd=>by
   simp only [List.mem_cons,List.not_mem_nil,or_false] at hd
   rcases hd with rfl | rfl <;> rfl) (fun j d u hd hu=>by
   match j,hd,hu with
   | 0,hd,hu =>
    simp at hd hu
    subst hd
    subst hu
    exact .cr _ _ (.sl0 0 A cap hm)
   | 1,hd,hu =>
    simp at hd hu
    subst hd
    subst hu
    exact .cr _ _ (.i k)
   | j+2,hd,hu=>simp at hd)
  refine (hC w _ _ _ _ hE).mono ?_
  rintro e w' ⟨u,rfl,hr⟩
  have hu:=hr.int
  obtain ⟨O,ob,ob2,raws,vals,rs,hm',_⟩:=hr
  refine ⟨by rw [hu],⟨hm'.os,hm'.tape,hm'.output,hm'.size,fun b hb _=>hm'.frame b hb (fun r hr=>by cases hr)⟩,_,rfl,.inl (.sl0 1 A cap hm)⟩
 | sl p es ad n cap sz xs hn h0=>simp at hn; omega
/-- Cells of numbers. -/
def intsC (cs:List DV):Prop:=∀ c∈cs,∃ n,c=.i n
theorem intsC.any {w w':World} {B B':Nat} {ok ok':OkT} {cs:List DV} (h:intsC cs) {j:Nat} {c:DV} {u:Value} (hc:cs[j]?=some c) (hu:CR w B ok c u):CR w' B' ok' c u:=by
 obtain ⟨n,rfl⟩:=h c (List.mem_of_getElem? hc)
 cases hu
 exact .i n
set_option maxHeartbeats 1000000 in
/-- A row of numbers,or of structs of numbers. -/
theorem marks_flat {f:FuncId} {sz:Nat} {es es':List DV} {k k':Int} (hb:hasBody P f=true) (hC:CallSpec P f [.fr sz es,.i k] (.i k',[.fr sz es'])) (h0:es≠[]) (hw:∀ e∈es,e.cells.length=sz) (hp:0 < sz∧sz < 64) (hs:intsC (flat es)) (hs':intsC (flat es')) :
  Marks P f (.sl 1 es) k (·=.sl 1 es') k':=by
 refine ⟨hb,fun w B ok v hok hx hg ht=>?_⟩
 have hcr:CR w B (Zk ok) (.sl 1 es) v:=by
  rcases hx with h | ⟨_,_,h,_⟩
  ·exact h
  ·cases h
 cases hcr with
 | sl0 p A cap hm=>exact absurd rfl h0
 | sl p es ad n cap sz0 xs hn hpos hc hm hsz hokb hlt hold hnew hrow hl hcell hrec =>
  obtain ⟨ty,hrow⟩:=hrow rfl
  have e0:sz0=sz:=by
   cases es with
   | nil=>exact absurd rfl h0
   | cons e r=>rw [← hsz e (List.mem_cons_self ..),hw e (List.mem_cons_self ..)]
  subst e0
  obtain ⟨g,cp,cur,hv,q1,q2,q3,q4,q5,q6⟩:=hrow.2.resolve_left (fun q=>by cases q.1)
  injection hv with hv1 hv2 hv3
  injection hv1 with hv1
  subst hv1
  subst hv3
  have hBg:B≤g:=hok g hokb
  have hidx:szId (mkId 0 sz0 7)=sz0:=by unfold szId mkId; omega
  have hmod:mkId 0 sz0 7 % 8=7:=by unfold mkId; omega
  have hE:Entry w (fun _=>True) [(mkId 0 sz0 7,⟨.slice (some ⟨g,0,none⟩) n cap,n,ty,sz0⟩)] (fun j=>if j=mkId 0 sz0 7 then some ⟨.slice (some ⟨g,0,none⟩) n cap,n,ty,sz0⟩ else none) [.fr sz0 es,.i k] #[.slice (some ⟨g,0,none⟩) n cap,.int .i64 k]:=by
   have eo:(enter 0 [.fr sz0 es,.i k] ⟨[],[]⟩).ob=[(mkId 0 sz0 7,es)]:=rfl
   have el:(enter 0 [.fr sz0 es,.i k] ⟨[],[]⟩).sl=[(0,.own (mkId 0 sz0 7) es.length 0 es.length),(1,.i k)]:=rfl
   refine ⟨rfl,⟨rfl,rfl,rfl,Nat.le_refl _,fun _ _ _=>rfl,fun j=>?_,fun j p' l hj hl'=>?_,fun j j' p1 p2 b hj hj' _ _=>?_,fun j p' b hj hb'=>?_,fun j p' hj=>?_,fun r hr h7 p' hp'=>?_,fun r hr=>?_⟩,fun j=>?_,fun r hr=>?_⟩
   ·rw [eo]
    simp only [lookO]
    by_cases h:j=mkId 0 sz0 7
    ·subst h; simp
    ·simp [h,Ne.symm h]
   ·rw [eo] at hl'
    by_cases h:j=mkId 0 sz0 7
    ·subst h
     simp only [if_pos,Option.some.injEq] at hj
     subst hj
     simp only [lookO,if_pos,Option.some.injEq] at hl'
     subst hl'
     exact ⟨hn.symm,hp.1,hw,xs,hrow,hl,fun i c u hi hu=>hs.any hi (hrec i c u hi hu)⟩
    ·simp only [if_neg h] at hj
     cases hj
   ·by_cases h:j=mkId 0 sz0 7
    ·by_cases h':j'=mkId 0 sz0 7
     ·rw [h,h']
     ·simp only [if_neg h'] at hj'
      cases hj'
    ·simp only [if_neg h] at hj
     cases hj
   ·by_cases h:j=mkId 0 sz0 7
    ·subst h
     simp only [if_pos,Option.some.injEq] at hj
     subst hj
     exact .inr ⟨by rw [hmod]; omega,_,List.mem_singleton.2 rfl,rfl,hb'⟩
    ·simp only [if_neg h] at hj
     cases hj
   ·by_cases h:j=mkId 0 sz0 7
    ·subst h
     simp only [if_pos,Option.some.injEq] at hj
     subst hj
     exact hidx.symm
    ·simp only [if_neg h] at hj
     cases hj
   ·rw [List.mem_singleton] at hr
    subst hr
    simp only [if_pos,Option.some.injEq] at hp'
    exact hp'.symm
   ·obtain ⟨t1,t2,t3,t4⟩:=hg r hr
    refine ⟨t1,trivial,fun q hq=>?_,t4⟩
    rw [List.mem_singleton] at hq
    subst hq
    have:=ht r hr
    intro q
    simp only [Value.ownBlock,Option.some.injEq] at q
    omega
   ·rw [el]
    match j with
    | 0 =>
     show VR w w.heap.size _ _ (.own (mkId 0 sz0 7) es.length 0 es.length) _
     rw [hn]
     refine .own _ _ _ _ ⟨.slice (some ⟨g,0,none⟩) n cap,n,ty,sz0⟩ _ (if_pos rfl) rfl (Nat.zero_le _) (Nat.le_refl _) ⟨some ⟨g,0,none⟩,cap,rfl,hc,hm,fun _=>⟨g,rfl,by simp⟩,fun _ _=>rfl,fun _=>⟨n,rfl⟩⟩
    | 1=>exact .cr _ _ (.i k)
    | j+2=>exact .dead _
   ·rw [List.mem_singleton] at hr
    subst hr
    show 6≤mkId 0 sz0 7 % 8
    omega
  refine (hC w _ _ _ _ hE).mono ?_
  rintro e w' ⟨u,rfl,hr⟩
  have hu:=hr.int
  obtain ⟨O,ob,ob2,raws,vals,rs,hm',hl1,hvr,hv',hgb,ho,_⟩:=hr
  simp only [outs] at ho
  split at ho
  ·rename_i es2 h2
   simp only [Option.some.injEq,List.cons.injEq,DV.fr.injEq,true_and,and_true] at ho
   subst ho
   have h3:=(giveBackL_sub hgb).1 _ _ h2
   obtain ⟨p',hO,hor⟩:=hm'.get h3
   have hpe:=hm'.refs _ (List.mem_singleton.2 rfl) hmod p' hO
   subst hpe
   obtain ⟨xs',r1,r2⟩:=hor.row
   have hlen:es2.length=n:=hor.len.symm
   have hgl:=hm'.lt hO rfl
   refine ⟨by rw [hu],⟨hm'.os,hm'.tape,hm'.output,hm'.size,fun b hb hnb=>hm'.frame b hb (fun r hr hq=>?_)⟩,_,rfl,.inl (.sl 1 es2 ⟨g,0,none⟩ n cap sz0 xs' hlen hpos hc hm hor.wid hokb hgl (fun h=>by cases h) (fun _=>hBg) (fun _=>⟨ty,r1⟩) r2.1 (fun j u hu=>r1.cells rfl j u hu) (fun j c u hj hu=>hs'.any hj (r2.2 j c u hj hu)))⟩
   rw [List.mem_singleton] at hr
   subst hr
   simp only [Value.ownBlock,Option.some.injEq] at hq
   subst hq
   exact hnb hokb
  ·cases ho
end
end Go.Lg

namespace Go.Lg
set_option linter.unusedSimpArgs false
set_option linter.unusedVariables false
set_option linter.unusedSectionVars false
open Go.RowKit
variable [GL]
section
variable {P:Program}

theorem call_from {lf:Nat→Option LF} {dc:Array Oper→Bool} (hok:∀ f F,lf f=some F→OkF P dc f F) (hD:∀ Γ,FnSound P Γ→DrawOk P Γ dc) (hB:BackSound P) {f:Nat} {F:LF} (hF:lf f=some F) (h0:F.prim=none) (hg:F.gl=[])
  {w:World} {ok0:Nat→Prop} {refs:List (Nat×PO)} {O:OM} {vs:Array Value} {S0:LS} (hvs:vs.size=F.nparams) (hm:MR ⟨w,ok0,refs⟩ O S0.ob w) (hs:∀ t,t < F.nparams→VR w w.heap.size (okb ok0 w.heap.size O) O (look S0.sl t) (vs.getD t undef)) (hs2:∀ t,F.nparams≤t→look S0.sl t=.dead) (h7:∀ r∈refs,6≤r.1 % 8)
  {x:Ex} {S:LS} (hx:x=.normal∨x=.ret) (he:ex lf F.body S0=some (x,S)) {raws:List DV} (hr:resV S F.results=some raws) :
  hasBody P f=true∧Calls P f vs w fun e w'=>∃ (O':OM) (vals:List Value),e=.returned (singleV vals)∧MR ⟨w,ok0,refs⟩ O' S.ob w'∧raws.length=vals.length∧∀ (j:Nat) (d:DV) (u:Value),raws[j]?=some d→vals[j]?=some u→VR w' w.heap.size (okb ok0 w.heap.size O') O' d u:=by
 obtain ⟨n,he⟩:=ex_iff.1 he
 have ih:=callN_sound hok hD hB n
 rcases hok f F hF with ⟨_,hOk⟩ | ⟨g,hg',_⟩
 rotate_left
 ·rw [h0] at hg'; cases hg'
 obtain ⟨fn,code,hfn,hb,hne,hv,hokc,⟨hnp,hnp2⟩,hres⟩:=hOk.ok
 refine ⟨by simp [hasBody,hfn,hb,hne],?_⟩
 refine (callsIn_wide (n:=0)).1 (callsIn_of_wp_marks (F:=Wd none) hfn hb trivial ?_ rfl)
 have hst:St ⟨w,ok0,refs⟩ fn.ntmps S0 { tmps:=vs++Array.replicate (fn.ntmps - vs.size) undef,defers:=[] } w:=by
  refine ⟨O,hm,fun t=>?_,Dfs.nil _ _,by simp; omega⟩
  rcases Nat.lt_or_ge t F.nparams with h | h
  ·have:=hs t h
   rw [tval_lt _ (by omega)]
   have e:(vs++Array.replicate (fn.ntmps - vs.size) undef).getD t undef=vs.getD t undef:=by
    simp only [Array.getD_eq_getD_getElem?]
    rw [Array.getElem?_append_left (by omega)]
   rw [e]
   exact this
  ·rw [hs2 t h]
   exact .dead _
 refine exec_ok (callOk_of ih) (hD _ ih) hB F.body code hv hokc (.inl rfl) h7 hst he (fun a' w' hs'=>?_)
 have fin:LeavesInM (Wd none) 0 P fn a'.tmps (fun e w'=>∃ (O':OM) (vals:List Value),e=.returned (singleV vals)∧MR ⟨w,ok0,refs⟩ O' S.ob w'∧raws.length=vals.length∧∀ (j:Nat) (d:DV) (u:Value),raws[j]?=some d→vals[j]?=some u→VR w' w.heap.size (okb ok0 w.heap.size O') O' d u) a'.defers .returning w':=by
  obtain ⟨O',hm',hsr',hdf,_⟩:=hs'
  obtain ⟨Ds,hds,hnd,hDD⟩:=hdf
  rw [hds]
  refine leaves_marks ⟨w,ok0,refs⟩ Ds hnd hDD (fun w2 _ hmv=>?_)
  obtain ⟨hm2,hv2⟩:=hmv O' S.ob hm'
  obtain ⟨vals,h1,h2,h3⟩:=run_results hm2 (fun t=>hv2 _ _ (hsr' t)) hres hr
  exact ⟨_,h1,O',vals,rfl,hm2,h2,h3⟩
 rcases hx with rfl | rfl
 ·exact fin
 ·exact fin

def toI:Value→Option Int
 | .int .i64 n=>some n
 | _=>none
theorem toI_some {v:Value} {n:Int} (h:toI v=some n):v=.int .i64 n:=by
 unfold toI at h
 split at h
 ·injection h with h
  rw [h]
 ·cases h
def ipre:List Value→List Int
 | []=>[]
 | v :: r=>match toI v with
  | some n=>n :: ipre r
  | none=>[]
theorem ipre_take:∀ l:List Value,l.take (ipre l).length=(ipre l).map (Value.int .i64)
 | []=>rfl
 | v :: r=>by
  simp only [ipre]
  cases h:toI v with
  | none=>rfl
  | some n =>
   simp only [List.length_cons,List.take_succ_cons,List.map_cons]
   rw [ipre_take r,toI_some h]
theorem ipre_of:∀ (r:List Int) (l:List Value),l.take r.length=r.map (Value.int .i64)→(ipre l).take r.length=r
 | [],l,_=>rfl
 | n :: r,[],h=>by simp at h
 | n :: r,v :: l,h=>by
  simp only [List.length_cons,List.take_succ_cons,List.map_cons,List.cons.injEq] at h
  obtain ⟨rfl,h⟩:=h
  simp only [ipre,toI,List.length_cons,List.take_succ_cons]
  rw [ipre_of r l h]
theorem ipre_le {r:List Int} {l:List Value} (h:l.take r.length=r.map (Value.int .i64)):r.length≤(ipre l).length:=by
 have:=congrArg List.length (ipre_of r l h)
 rw [List.length_take] at this
 omega
theorem ipre_len:∀ l:List Value,(ipre l).length≤l.length
 | []=>Nat.le_refl _
 | v :: r=>by
  simp only [ipre]
  cases toI v with
  | none=>exact Nat.zero_le _
  | some n =>
   simp only [List.length_cons]
   have:=ipre_len r
   omega
theorem crs_ints {w:World} {B:Nat} {ok:OkT}:∀ {l:List Int} {xs:List Value},CRs w B ok (l.map .i) xs→xs=l.map (Value.int .i64)
 | l,xs,⟨h1,h2⟩=>by
  apply List.ext_getElem?
  intro j
  rcases Nat.lt_or_ge j l.length with h | h
  ·have hj:j < xs.length:=by rw [h1]; simpa using h
   have:=h2 j (.i l[j]) xs[j] (by simp [h]) (by simp [hj])
   rw [List.getElem?_eq_getElem hj,List.getElem?_map,List.getElem?_eq_getElem h]
   generalize xs[j]=v at this ⊢
   cases this
   rfl
  ·rw [List.getElem?_eq_none (by rw [h1]; simpa using h),List.getElem?_eq_none (by simpa using h)]
def marksI (k:Int) (n:Nat):List Int:=(List.range n).map fun (j:Nat)=>k+(j:Int)
theorem marksI_len (k:Int) (n:Nat):(marksI k n).length=n:=by simp [marksI]
/-- A function that marks the beginning of a row of numbers,and leaves what is behind it. -/
def MarksCut (P:Program) (f:FuncId) (k:Int) (n:Nat):Prop:=hasBody P f=true∧∀ (w:World) (g cap:Nat) (ty:TypeId) (cur:Array Value) (rs:List Int),
 w.heap[g]?=some (.cells cur ty (0,0))→cur.size=cap→cap≤maxLen→0 < n→n≤rs.length→rs.length≤cap→cur.toList.take rs.length=rs.map (Value.int .i64)→GlobC ⟨w,fun _=>True,[]⟩→(∀ r∈GL.gl,r.1≠g) →
  Calls P f #[.slice (some ⟨g,0,none⟩) n cap,.int .i64 k] w fun e w'=>e=.returned (.int .i64 (k+n))∧Chg (·=g) w w'∧∃ cur':Array Value,w'.heap[g]?=some (.cells cur' ty (0,0))∧cur'.size=cap∧cur'.toList.take rs.length=(marksI k n++rs.drop n).map (Value.int .i64)
theorem marks_cut {lf:Nat→Option LF} {dc:Array Oper→Bool} (hok:∀ f F,lf f=some F→OkF P dc f F) (hD:∀ Γ,FnSound P Γ→DrawOk P Γ dc) (hB:BackSound P) {f:Nat} {F:LF} (hF:lf f=some F) (h0:F.prim=none) (hg:F.gl=[]) (hp:F.nparams=2) {k:Int} {n:Nat} (hn:n≤1048576)
  (hC:∀ rs:List Int,n≤rs.length→∃ (x:Ex) (S:LS),(x=.normal∨x=.ret)∧ex lf F.body ⟨[(0,.own 15 rs.length 0 n),(1,.i k)],[(15,rs.map .i)]⟩=some (x,S)∧resV S F.results=some [.i (k+n)]∧lookO S.ob 15=some ((marksI k n++rs.drop n).map .i)) (hb:hasBody P f=true):MarksCut P f k n:=by
 refine ⟨hb,fun w g cap ty cur rs q1 q2 q3 q4 q5 q6 q7 hgl ht=>?_⟩
 obtain ⟨x,S,hx,he,hr,hl⟩:=hC rs q5
 have hrow:w.ownsRow 0 ty 1 (.slice (some ⟨g,0,none⟩) rs.length cap) rs.length (rs.map (Value.int .i64)):=⟨by simp,.inr ⟨g,cap,cur,rfl,Nat.zero_le _,q1,q6,q3,by rw [q2,Nat.mul_one],by rw [Nat.mul_one]; exact q7⟩⟩
 have hmr:MR ⟨w,fun _=>True,[(15,⟨.slice (some ⟨g,0,none⟩) rs.length cap,rs.length,ty,1⟩)]⟩ (fun j=>if j=15 then some ⟨.slice (some ⟨g,0,none⟩) rs.length cap,rs.length,ty,1⟩ else none) [(15,rs.map .i)] w:=by
  refine ⟨rfl,rfl,rfl,Nat.le_refl _,fun _ _ _=>rfl,fun j=>?_,fun j p' l hj hl'=>?_,fun j j' p1 p2 b hj hj' _ _=>?_,fun j p' b hj hb'=>?_,fun j p' hj=>?_,fun r hr h7 p' hp'=>?_,fun r hr=>?_⟩
  ·simp only [lookO]
   by_cases h:j=15
   ·subst h; simp
   ·simp [h,Ne.symm h]
  ·by_cases h:j=15
   ·subst h
    simp only [if_pos,Option.some.injEq] at hj
    subst hj
    simp only [lookO,if_pos,Option.some.injEq] at hl'
    subst hl'
    refine ⟨by simp,Nat.one_pos,fun e he=>?_,_,hrow,?_⟩
    ·obtain ⟨m,_,rfl⟩:=List.mem_map.1 he
     rfl
    ·have hfl:∀ l:List Int,flat (l.map DV.i)=l.map DV.i:=by
      intro l
      induction l with
      | nil=>rfl
      | cons a l ih=>rw [List.map_cons,flat_cons,ih]; rfl
     rw [hfl]
     refine ⟨by simp,fun i c u hi hu=>?_⟩
     rw [List.getElem?_map,Option.map_eq_some_iff] at hi hu
     obtain ⟨m,h1,rfl⟩:=hi
     obtain ⟨m',h2,rfl⟩:=hu
     rw [h1] at h2
     injection h2 with h2
     subst h2
     exact .i m
   ·simp only [if_neg h] at hj
    cases hj
  ·by_cases h:j=15
   ·by_cases h':j'=15
    ·rw [h,h']
    ·simp only [if_neg h'] at hj'
     cases hj'
   ·simp only [if_neg h] at hj
    cases hj
  ·by_cases h:j=15
   ·subst h
    simp only [if_pos,Option.some.injEq] at hj
    subst hj
    exact .inr ⟨by omega,_,List.mem_singleton.2 rfl,rfl,hb'⟩
   ·simp only [if_neg h] at hj
    cases hj
  ·by_cases h:j=15
   ·subst h
    simp only [if_pos,Option.some.injEq] at hj
    subst hj
    rfl
   ·simp only [if_neg h] at hj
    cases hj
  ·rw [List.mem_singleton] at hr
   subst hr
   simp only [if_pos,Option.some.injEq] at hp'
   exact hp'.symm
  ·obtain ⟨t1,t2,t3,t4⟩:=hgl r hr
   refine ⟨t1,trivial,fun q hq=>?_,t4⟩
   rw [List.mem_singleton] at hq
   subst hq
   have:=ht r hr
   intro q
   simp only [Value.ownBlock,Option.some.injEq] at q
   omega
 have CF:=call_from hok hD hB hF h0 hg (vs:=#[.slice (some ⟨g,0,none⟩) n cap,.int .i64 k]) (by rw [hp]; rfl) hmr (fun t ht=>by
  rw [hp] at ht
  match t,ht with
  | 0,_=>exact .own _ _ _ _ ⟨.slice (some ⟨g,0,none⟩) rs.length cap,rs.length,ty,1⟩ _ (if_pos rfl) rfl (Nat.zero_le _) q5 ⟨some ⟨g,0,none⟩,cap,rfl,by omega,q3,fun _=>⟨g,rfl,by simp⟩,fun _ h=>by rw [h]; rfl,fun _=>⟨_,rfl⟩⟩
  | 1,_=>exact .cr _ _ (.i k)
  | t+2,h=>omega) (fun t ht=>by
  rw [hp] at ht
  match t,ht with
  | 0,h=>omega
  | 1,h=>omega
  | t+2,_=>rfl) (fun r hr=>by
  rw [List.mem_singleton] at hr
  subst hr
  show 6≤15 % 8
  omega) hx he hr
 refine CF.2.mono ?_
 rintro e w' ⟨O',vals,rfl,hm',hvl,hvr⟩
 obtain ⟨p',hO,hor⟩:=hm'.get hl
 have hpe:=hm'.refs _ (List.mem_singleton.2 rfl) (show 15 % 8=7 by decide) p' hO
 subst hpe
 obtain ⟨xs',r1,r2⟩:=hor.row
 have hfl:∀ l:List Int,flat (l.map DV.i)=l.map DV.i:=by
  intro l
  induction l with
  | nil=>rfl
  | cons a l ih=>rw [List.map_cons,flat_cons,ih]; rfl
 rw [hfl] at r2
 have hxs:=crs_ints r2
 subst hxs
 obtain ⟨g',cp',cur',hv',_,h2',h3',h4',h5',h6'⟩:=r1.2.resolve_left (fun q=>by cases q.1)
 injection hv' with hv1 hv2 hv3
 injection hv1 with hv1
 injection hv1 with hv1
 subst hv1
 subst hv3
 refine ⟨?_,⟨hm'.os,hm'.tape,hm'.output,hm'.size,fun b hb hnb=>hm'.frame b hb (fun r hr hq=>?_)⟩,cur',h2',by rw [h5',Nat.mul_one],by rw [Nat.mul_one] at h6'; exact h6'⟩
 ·match vals,hvl with
  | [u],_ =>
   have:=VR.int (c:=⟨w,fun _=>True,[]⟩) (hvr 0 _ u rfl rfl)
   subst this
   rfl
 ·rw [List.mem_singleton] at hr
  subst hr
  simp only [Value.ownBlock,Option.some.injEq] at hq
  exact hnb hq.symm
end
end Go.Lg

namespace Go.Lg
set_option linter.unusedSimpArgs false
set_option linter.unusedVariables false
set_option linter.unusedSectionVars false
open Go.RowKit
variable [GL]
section
variable {P:Program}

theorem Seam.ex {lf:Nat→Option LF} (hS:∀ n,CallOk P (callN lf n)) {N:Nat} {wI w:World} {fs:List Fact} {a:Act} (h:Seam wI N fs a w) {dc:Array Oper→Bool} {lc:LC} {code:Code} (hl:lc.line=true) (hv:viewC P code=some (strip lc)) (hok:okC N dc code=true) {x:Ex} {S1:LS} (he:Lg.ex lf lc ⟨envF fs,[]⟩=some (x,S1)) {r:Option Nat} {m:Nat} {Q:Exit→Act→World→Prop}
  (hQ:∀ a' w',Seam wI N (fs.filter fun f=>!(lc.dsts.contains f.t)) a' w'→Below w.heap.size w w'→St ⟨w,fun _=>True,[]⟩ N S1 a' w'→Kept lc.dsts a a'→Q x.to a' w'):code.wpIn (Wd r) m P Q a w:=by
 obtain ⟨n,he⟩:=ex_iff.1 he
 exact h.exec (hS n) hl hv hok he hQ
/-- A frame's end. -/
theorem leaves_of {fn:Func} {c:Cx} {N:Nat} {S:LS} {a:Act} {w:World} (hs:St c N S a w) (hd:a.defers=[]) {rls:List ResL} (hres:viewRes P fn.results.toList=some rls) {raws:List DV} (hr:resV S rls=some raws) {R:Ending→World→Prop}
  (hR:∀ (O:OM) (vals:List Value),MR c O S.ob w→raws.length=vals.length→(∀ (j:Nat) (d:DV) (u:Value),raws[j]?=some d→vals[j]?=some u→VR w c.B (okb c.ok0 c.B O) O d u)→R (.returned (singleV vals)) w):LeavesInM (Wd none) 0 P fn a.tmps R a.defers .returning w:=by
 obtain ⟨O',hm',hsr',_,_⟩:=hs
 obtain ⟨vals,h1,h2,h3⟩:=run_results hm' hsr' hres hr
 rw [hd]
 exact ⟨_,h1,hR O' vals hm' h2 h3⟩

theorem flat_ints:∀ l:List Int,flat (l.map DV.i)=l.map DV.i
 | []=>rfl
 | a :: l=>by rw [List.map_cons,flat_cons,flat_ints l]; rfl
/-- What a cell of a row of rows holds. -/
def RowAt (w:World) (B:Nat) (ok:Nat→Prop) (u:Value) (r:List Int):Prop :=
 (r=[]∧∃ A cap,u=.slice A 0 cap∧cap≤maxLen) ∨
 ∃ (g cap:Nat) (ty:TypeId) (cur:Array Value),u=.slice (some ⟨g,0,none⟩) r.length cap∧r≠[]∧ok g∧B≤g∧w.heap[g]?=some (.cells cur ty (0,0))∧cur.size=cap∧r.length≤cap∧cap≤maxLen∧cur.toList.take r.length=r.map (Value.int .i64)
theorem RowAt.of {w:World} {B:Nat} {ok:Nat→Prop} {u:Value} {r:List Int} {d:DV} (h:CR w B (Zk ok) d u) (hd:d=.sl 1 (r.map .i)):RowAt w B ok u r:=by
 cases h with
 | sl0 p A cap hm =>
  injection hd with _ hd
  exact .inl ⟨by simpa using hd.symm,A,cap,rfl,hm⟩
 | sl p es ad n cap sz xs hn h0 hc hm hsz hok hlt hold hnew hrow hl hcell hrec =>
  injection hd with hp hd
  subst hp
  subst hd
  have hne:r≠[]:=by rintro rfl; simp at hn; omega
  have e1:sz=1:=by
   cases r with
   | nil=>exact absurd rfl hne
   | cons a r=>exact (hsz (.i a) (by simp)).symm
  subst e1
  obtain ⟨ty,hr⟩:=hrow rfl
  obtain ⟨g,cp,cur,hv,q1,q2,q3,q4,q5,q6⟩:=hr.2.resolve_left (fun q=>by cases q.1)
  injection hv with hv1 hv2 hv3
  injection hv1 with hv1
  subst hv1
  subst hv3
  have hx:xs=r.map (Value.int .i64):=by
   refine crs_ints (w:=w) (B:=B) (ok:=Zk ok) ⟨?_,?_⟩
   ·rw [hl,flat_ints]
   ·intro j c u hj hu
    exact hrec j c u (by rw [flat_ints]; exact hj) hu
  rw [List.length_map] at hn
  subst hn
  rw [hx,Nat.mul_one] at q6
  exact .inr ⟨g,cap,ty,cur,rfl,hne,hok,hnew (.inl rfl),q2,by rw [q5,Nat.mul_one],q3,q4,q6⟩
 | _=>cases hd
theorem RowAt.cr {w:World} {B:Nat} {ok:Nat→Prop} {u:Value} {r:List Int} (h:RowAt w B ok u r):CR w B (Zk ok) (.sl 1 (r.map .i)) u:=by
 rcases h with ⟨rfl,A,cap,rfl,hm⟩ | ⟨g,cap,ty,cur,rfl,hne,hok,hB,q1,q2,q3,q4,q5⟩
 ·exact .sl0 1 A cap hm
 ·have hrow:w.ownsRow 0 ty 1 (.slice (some ⟨g,0,none⟩) r.length cap) r.length (r.map (Value.int .i64)):=⟨by simp,.inr ⟨g,cap,cur,rfl,Nat.zero_le _,q1,q3,q4,by rw [q2,Nat.mul_one],by rw [Nat.mul_one]; exact q5⟩⟩
  have hlt:g < w.heap.size:=(Array.getElem?_eq_some_iff.1 q1).1
  refine .sl 1 _ ⟨g,0,none⟩ r.length cap 1 (r.map (Value.int .i64)) (by simp) (List.length_pos_iff.2 hne) q3 q4 (fun e he=>?_) hok hlt (fun h=>by cases h) (fun _=>hB) (fun _=>⟨ty,hrow⟩) (by rw [flat_ints]; simp) (fun j x hx=>hrow.cells rfl j x hx) (fun j c x hc hx=>?_)
  ·obtain ⟨m,_,rfl⟩:=List.mem_map.1 he
   rfl
  ·rw [flat_ints] at hc
   rw [List.getElem?_map,Option.map_eq_some_iff] at hc hx
   obtain ⟨m,h1,rfl⟩:=hc
   obtain ⟨m',h2,rfl⟩:=hx
   rw [h1] at h2
   injection h2 with h2
   subst h2
   exact .i m
theorem RowAt.slice {w:World} {B:Nat} {ok:Nat→Prop} {u:Value} {r:List Int} (h:RowAt w B ok u r):∃ A cap,u=.slice A r.length cap:=by
 rcases h with ⟨rfl,A,cap,rfl,hm⟩ | ⟨g,cap,ty,cur,rfl,_⟩
 ·exact ⟨A,cap,rfl⟩
 ·exact ⟨_,cap,rfl⟩
theorem RowAt.keep {w w':World} {B:Nat} {ok:Nat→Prop} {u:Value} {r:List Int} (h:RowAt w B ok u r) (hw:∀ b,u.ownBlock=some b→b < w.heap.size→w'.heap[b]?=w.heap[b]?):RowAt w' B ok u r:=by
 rcases h with h | ⟨g,cap,ty,cur,rfl,hne,hok,hB,q1,q2⟩
 ·exact .inl h
 ·exact .inr ⟨g,cap,ty,cur,rfl,hne,hok,hB,by rw [hw g rfl (Array.getElem?_eq_some_iff.1 q1).1]; exact q1,q2⟩
/-- A row of rows: its cells,and what they hold. -/
def dRs (rs:List (List Int)):DV:=.sl 1 (rs.map fun r=>.sl 1 (r.map .i))
structure RowsAt (w:World) (B:Nat) (ok:Nat→Prop) (V:Value) (us:List Value) (rs:List (List Int)):Prop where
 len:us.length=rs.length
 row:∀ (j:Nat) (u:Value) (r:List Int),us[j]?=some u→rs[j]?=some r→RowAt w B ok u r
 out:(us=[]∧∃ A cap,V=.slice A 0 cap∧cap≤maxLen)∨∃ (g cap:Nat) (ty:TypeId),V=.slice (some ⟨g,0,none⟩) us.length cap∧us≠[]∧us.length≤cap∧cap≤maxLen∧ok g∧B≤g∧g < w.heap.size∧w.ownsRow 0 ty 1 V us.length us
theorem RowsAt.of {w:World} {B:Nat} {ok:Nat→Prop} {V:Value} {rs:List (List Int)} {d:DV} (h:CR w B (Zk ok) d V) (hd:d=dRs rs):∃ us,RowsAt w B ok V us rs:=by
 have fl:∀ rs:List (List Int),flat (rs.map fun r=>DV.sl 1 (r.map DV.i))=rs.map fun r=>DV.sl 1 (r.map DV.i):=by
  intro rs
  induction rs with
  | nil=>rfl
  | cons a l ih=>rw [List.map_cons,flat_cons,ih]; rfl
 cases h with
 | sl0 p A cap hm =>
  injection hd with _ hd
  have:rs=[]:=by simpa using hd.symm
  subst this
  exact ⟨[],rfl,fun j u r hj=>by simp at hj,.inl ⟨rfl,A,cap,rfl,hm⟩⟩
 | sl p es ad n cap sz xs hn h0 hc hm hsz hok hlt hold hnew hrow hl hcell hrec =>
  injection hd with hp hd
  subst hp
  subst hd
  have hne:rs≠[]:=by rintro rfl; simp at hn; omega
  have e1:sz=1:=by
   cases rs with
   | nil=>exact absurd rfl hne
   | cons a r=>exact (hsz (.sl 1 (a.map .i)) (by simp)).symm
  subst e1
  obtain ⟨ty,hr⟩:=hrow rfl
  obtain ⟨g,cp,cur,hv,q1,q2,q3,q4,q5,q6⟩:=hr.2.resolve_left (fun q=>by cases q.1)
  injection hv with hv1 hv2 hv3
  injection hv1 with hv1
  subst hv1
  subst hv3
  have hxl:xs.length=rs.length:=by rw [hl,fl]; simp
  rw [List.length_map] at hn
  have hnl:n=xs.length:=by rw [hxl,hn]
  subst hnl
  refine ⟨xs,hxl,fun j u r hj hr'=>?_,.inr ⟨g,cap,ty,rfl,fun h=>by rw [h] at h0; simp at h0,q3,q4,hok,hnew (.inl rfl),hlt,hr⟩⟩
  exact RowAt.of (hrec j (.sl 1 (r.map .i)) u (by rw [fl,List.getElem?_map,hr']; rfl) hj) rfl
 | _=>cases hd
theorem RowsAt.cr {w:World} {B:Nat} {ok:Nat→Prop} {V:Value} {us:List Value} {rs:List (List Int)} (h:RowsAt w B ok V us rs):CR w B (Zk ok) (dRs rs) V:=by
 have fl:∀ rs:List (List Int),flat (rs.map fun r=>DV.sl 1 (r.map DV.i))=rs.map fun r=>DV.sl 1 (r.map DV.i):=by
  intro rs
  induction rs with
  | nil=>rfl
  | cons a l ih=>rw [List.map_cons,flat_cons,ih]; rfl
 obtain ⟨h1,h2,h3⟩:=h
 rcases h3 with ⟨rfl,A,cap,rfl,hm⟩ | ⟨g,cap,ty,rfl,hne,q1,q2,hok,hB,hlt,hr⟩
 ·have:rs=[]:=List.eq_nil_of_length_eq_zero (by rw [← h1]; rfl)
  subst this
  exact .sl0 1 A cap hm
 ·refine .sl 1 _ ⟨g,0,none⟩ us.length cap 1 us (by simp [h1]) (List.length_pos_iff.2 hne) q1 q2 (fun e he=>?_) hok hlt (fun h=>by cases h) (fun _=>hB) (fun _=>⟨ty,hr⟩) (by rw [fl]; simp [h1]) (fun j x hx=>hr.cells rfl j x hx) (fun j c x hc hx=>?_)
  ·obtain ⟨m,_,rfl⟩:=List.mem_map.1 he
   rfl
  ·rw [fl,List.getElem?_map,Option.map_eq_some_iff] at hc
   obtain ⟨r,hr',rfl⟩:=hc
   exact (h2 j x r hx hr').cr
theorem RowsAt.keep {w w':World} {B:Nat} {ok:Nat→Prop} {V:Value} {us:List Value} {rs:List (List Int)} (h:RowsAt w B ok V us rs) (hw:Below w.heap.size w w'):RowsAt w' B ok V us rs:=by
 obtain ⟨h1,h2,h3⟩:=h
 refine ⟨h1,fun j u r hj hr=>(h2 j u r hj hr).keep (fun b _ hb=>hw.block b hb),?_⟩
 rcases h3 with h3 | ⟨g,cap,ty,rfl,hne,q1,q2,hok,hB,hlt,hr⟩
 ·exact .inl h3
 ·exact .inr ⟨g,cap,ty,rfl,hne,q1,q2,hok,hB,Nat.lt_of_lt_of_le hlt hw.size,ownsRow_keep hr (hw.block g hlt)⟩
/-- The rows lie beside the row that names them. -/
theorem RowsAt.apart {w:World} {B:Nat} {ok:Nat→Prop} {V:Value} {us:List Value} {rs:List (List Int)} (h:RowsAt w B ok V us rs) {j:Nat} {u:Value} {r:List Int} (hj:us[j]?=some u) (hr:rs[j]?=some r) (hne:r≠[]) {g:Nat} (hu:u.ownBlock=some g):V.ownBlock≠some g:=by
 obtain ⟨h1,h2,h3⟩:=h
 rcases h3 with ⟨rfl,_⟩ | ⟨g',cap,ty,rfl,hne',q1,q2,hok,hB,hlt,hrow⟩
 ·simp at hj
 intro hV
 simp only [Value.ownBlock,Option.some.injEq] at hV
 subst hV
 rcases h2 j u r hj hr with ⟨h,_⟩ | ⟨g2,cap2,ty2,cur2,rfl,_,_,_,p1,p2,p3,p4,p5⟩
 ·exact hne h
 simp only [Value.ownBlock,Option.some.injEq] at hu
 subst hu
 obtain ⟨g3,cp3,cur3,hv,_,t2,t3,t4,t5,t6⟩:=hrow.2.resolve_left (fun q=>by cases q.1)
 injection hv with hv1 hv2 hv3
 injection hv1 with hv1
 injection hv1 with hv1
 subst hv1
 rw [p1] at t2
 injection t2 with t2
 injection t2 with t2
 subst t2
 cases us with
 | nil=>exact hne' rfl
 | cons u0 us =>
  cases r with
  | nil=>exact hne rfl
  | cons a r =>
   obtain ⟨r0,hr0⟩:∃ r0,rs[0]?=some r0:=⟨rs[0]'(by rw [← h1]; simp),List.getElem?_eq_getElem _⟩
   obtain ⟨A0,c0,e0⟩:=(h2 0 u0 r0 rfl hr0).slice
   have x0:cur2.toList[0]?=some u0:=by
    have:=congrArg (fun l=>l[0]?) t6
    simp only [List.length_cons,Nat.mul_one,List.getElem?_take,Nat.zero_lt_succ,if_true,List.getElem?_cons_zero] at this
    exact this
   have y0:cur2.toList[0]?=some (.int .i64 a):=by
    have:=congrArg (fun l=>l[0]?) p5
    simp only [List.length_cons,List.getElem?_take,Nat.zero_lt_succ,if_true,List.map_cons,List.getElem?_cons_zero] at this
    exact this
   rw [x0,e0] at y0
   cases y0
end
end Go.Lg

namespace Go.Lg
set_option linter.unusedSimpArgs false
set_option linter.unusedVariables false
set_option linter.unusedSectionVars false
open Go.RowKit
variable [GL]
section
variable {P:Program} {N:Nat} {w:World} {a:Act}

def vlen:Value→Nat
 | .slice _ n _=>n
 | _=>0
/-- Two rows that hold something begin differently. -/
def Dst (rs:List (List Int)):Prop:=∀ (i j:Nat) (r s:List Int),i≠j→rs[i]?=some r→rs[j]?=some s→r≠[]→s≠[]→r.head?≠s.head?
/-- Two rows that hold something lie in two blocks. -/
def blkDst (us:List Value):Prop:=∀ (i j:Nat) (u v:Value) (g:Nat),i≠j→us[i]?=some u→us[j]?=some v→0 < vlen u→0 < vlen v→u.ownBlock=some g→v.ownBlock≠some g
theorem RowAt.vlen {w:World} {B:Nat} {ok:Nat→Prop} {u:Value} {r:List Int} (h:RowAt w B ok u r):Lg.vlen u=r.length:=by
 obtain ⟨A,cap,rfl⟩:=h.slice
 rfl
theorem RowsAt.dst {B:Nat} {ok:Nat→Prop} {V:Value} {us:List Value} {rs:List (List Int)} (h:RowsAt w B ok V us rs) (hd:Dst rs):blkDst us:=by
 intro i j u v g hij hu hv pu pv gu gv
 have hi:i < rs.length:=by rw [← h.len]; exact (List.getElem?_eq_some_iff.1 hu).1
 have hj:j < rs.length:=by rw [← h.len]; exact (List.getElem?_eq_some_iff.1 hv).1
 have hri:rs[i]?=some rs[i]:=List.getElem?_eq_getElem hi
 have hrj:rs[j]?=some rs[j]:=List.getElem?_eq_getElem hj
 have Ri:=h.row i u _ hu hri
 have Rj:=h.row j v _ hv hrj
 have li:=Ri.vlen
 have lj:=Rj.vlen
 generalize rs[i]=r at *
 generalize rs[j]=s at *
 have hr:r≠[]:=by rintro rfl; simp at li; omega
 have hs:s≠[]:=by rintro rfl; simp at lj; omega
 refine hd i j r s hij hri hrj hr hs ?_
 rcases Ri with ⟨h,_⟩ | ⟨g1,c1,t1,cur1,rfl,_,_,_,p1,_,_,_,p5⟩
 ·exact absurd h hr
 rcases Rj with ⟨h,_⟩ | ⟨g2,c2,t2,cur2,rfl,_,_,_,q1,_,_,_,q5⟩
 ·exact absurd h hs
 simp only [Value.ownBlock,Option.some.injEq] at gu gv
 subst gu
 subst gv
 rw [p1] at q1
 injection q1 with q1
 injection q1 with q1
 subst q1
 cases r with
 | nil=>exact absurd rfl hr
 | cons x r =>
  cases s with
  | nil=>exact absurd rfl hs
  | cons y s =>
   have x0:cur1.toList[0]?=some (.int .i64 x):=by
    have:=congrArg (fun l=>l[0]?) p5
    simp only [List.length_cons,List.getElem?_take,Nat.zero_lt_succ,if_true,List.map_cons,List.getElem?_cons_zero] at this
    exact this
   have y0:cur1.toList[0]?=some (.int .i64 y):=by
    have:=congrArg (fun l=>l[0]?) q5
    simp only [List.length_cons,List.getElem?_take,Nat.zero_lt_succ,if_true,List.map_cons,List.getElem?_cons_zero] at this
    exact this
   rw [x0] at y0
   injection y0 with y0
   injection y0 with _ y0
   rw [y0]
   rfl
/-- One row marked: what the row of rows is then. -/
theorem RowsAt.mark {B:Nat} {ok:Nat→Prop} {V:Value} {us:List Value} {rs:List (List Int)} (h:RowsAt w B ok V us rs) {i:Nat} {u:Value} {r:List Int} (hu:us[i]?=some u) (hr:rs[i]?=some r) {g cap:Nat} {ty:TypeId} {cur cur':Array Value} (he:u=.slice (some ⟨g,0,none⟩) r.length cap) (hne:r≠[])
  (hc:w.heap[g]?=some (.cells cur ty (0,0))) (hcs:cur.size=cap) {w':World} (hch:Chg (·=g) w w') (hc':w'.heap[g]?=some (.cells cur' ty (0,0))) (hsz:cur'.size=cap) {Z:List Int} (hZ:cur'.toList.take (ipre cur.toList).length=Z.map (Value.int .i64)) (hZl:Z.length=(ipre cur.toList).length) :
  ∃ rs',RowsAt w' B ok V us rs'∧rs'.map List.length=rs.map List.length∧rs'[i]?=some (Z.take r.length)∧(blkDst us→∀ j,j≠i→rs'[j]?=rs[j]?):=by
 have key:∀ (j:Nat) (u':Value) (r':List Int),us[j]?=some u'→rs[j]?=some r'→(if 0 < Lg.vlen u'∧u'.ownBlock=some g then Z.take r'.length else r').length=r'.length∧RowAt w' B ok u' (if 0 < Lg.vlen u'∧u'.ownBlock=some g then Z.take r'.length else r'):=by
  intro j u' r' hu' hr'
  have R:=h.row j u' r' hu' hr'
  by_cases hb:0 < Lg.vlen u'∧u'.ownBlock=some g
  ·rw [if_pos hb]
   have lj:=R.vlen
   rcases R with ⟨rfl,_⟩ | ⟨g2,c2,t2,cur2,rfl,n2,ok2,B2,q1,q2,q3,q4,q5⟩
   ·simp at lj; omega
   have hg:=hb.2
   simp only [Value.ownBlock,Option.some.injEq] at hg
   subst hg
   rw [hc] at q1
   injection q1 with q1
   injection q1 with e1 e2 _
   subst e1
   subst e2
   have hle:=ipre_le q5
   have hl:(Z.take r'.length).length=r'.length:=by rw [List.length_take,hZl]; omega
   refine ⟨hl,.inr ⟨g2,c2,ty,cur',by rw [hl],fun q=>by rw [q] at hl; exact n2 (List.eq_nil_of_length_eq_zero hl.symm),ok2,B2,hc',by rw [hsz,← hcs,q2],by rw [hl]; exact q3,q4,?_⟩⟩
   rw [hl]
   have:cur'.toList.take r'.length=(cur'.toList.take (ipre cur.toList).length).take r'.length:=by rw [List.take_take,Nat.min_eq_left hle]
   rw [this,hZ,List.map_take]
  ·rw [if_neg hb]
   refine ⟨rfl,?_⟩
   rcases R with h1 | ⟨g2,c2,t2,cur2,rfl,n2,ok2,B2,q1,q2⟩
   ·exact .inl h1
   have hg:g2≠g:=fun q=>hb ⟨List.length_pos_iff.2 n2,by rw [q]; rfl⟩
   exact .inr ⟨g2,c2,t2,cur2,rfl,n2,ok2,B2,by rw [hch.heap g2 (Array.getElem?_eq_some_iff.1 q1).1 hg]; exact q1,q2⟩
 have zl:(List.zipWith (fun u' r'=>if 0 < Lg.vlen u'∧u'.ownBlock=some g then Z.take r'.length else r') us rs).length=rs.length:=by rw [List.length_zipWith,h.len,Nat.min_self]
 have zg:∀ (j:Nat) (u':Value) (r':List Int),us[j]?=some u'→rs[j]?=some r'→(List.zipWith (fun u' r'=>if 0 < Lg.vlen u'∧u'.ownBlock=some g then Z.take r'.length else r') us rs)[j]?=some (if 0 < Lg.vlen u'∧u'.ownBlock=some g then Z.take r'.length else r'):=by
  intro j u' r' hu' hr'
  rw [List.getElem?_zipWith,hu',hr']
 have ex:∀ j,j < rs.length→∃ u' r',us[j]?=some u'∧rs[j]?=some r':=fun j hj=>⟨us[j]'(by rw [h.len]; exact hj),rs[j],List.getElem?_eq_getElem _,List.getElem?_eq_getElem _⟩
 refine ⟨List.zipWith (fun u' r'=>if 0 < Lg.vlen u'∧u'.ownBlock=some g then Z.take r'.length else r') us rs,⟨by rw [zl]; exact h.len,fun j u' r' hu' hr'=>?_,?_⟩,?_,?_,fun hb j hj=>?_⟩
 ·obtain ⟨u2,r2,e1,e2⟩:=ex j (by rw [← zl]; exact (List.getElem?_eq_some_iff.1 hr').1)
  rw [hu'] at e1
  injection e1 with e1
  subst e1
  rw [zg j u' r2 hu' e2] at hr'
  injection hr' with hr'
  subst hr'
  exact (key j u' r2 hu' e2).2
 ·have ap:=h.apart hu hr hne (g:=g) (by rw [he]; rfl)
  rcases h.out with h3 | ⟨g',cap',ty',rfl,hne',q1,q2,hok,hB,hlt,hrow⟩
  ·exact .inl h3
  ·have hg:g'≠g:=fun q=>ap (by rw [q]; rfl)
   exact .inr ⟨g',cap',ty',rfl,hne',q1,q2,hok,hB,Nat.lt_of_lt_of_le hlt hch.size,ownsRow_keep hrow (hch.heap g' hlt hg)⟩
 ·apply List.ext_getElem?
  intro j
  rcases Nat.lt_or_ge j rs.length with hj | hj
  ·obtain ⟨u',r',e1,e2⟩:=ex j hj
   rw [List.getElem?_map,List.getElem?_map,zg j u' r' e1 e2,e2,Option.map_some,Option.map_some,(key j u' r' e1 e2).1]
  ·rw [List.getElem?_eq_none (by rw [List.length_map,zl]; exact hj),List.getElem?_eq_none (by rw [List.length_map]; exact hj)]
 ·rw [zg i u r hu hr,if_pos ⟨by rw [he]; exact List.length_pos_iff.2 hne,by rw [he]; rfl⟩]
 ·rcases Nat.lt_or_ge j rs.length with hjl | hjl
  ·obtain ⟨u',r',e1,e2⟩:=ex j hjl
   rw [zg j u' r' e1 e2,e2]
   by_cases q:0 < Lg.vlen u'∧u'.ownBlock=some g
   ·exact absurd q.2 (hb i j u u' g (fun e=>hj e.symm) hu e1 (by rw [he]; exact List.length_pos_iff.2 hne) q.1 (by rw [he]; rfl))
   ·rw [if_neg q]
  ·rw [List.getElem?_eq_none (by rw [zl]; exact hjl),List.getElem?_eq_none hjl]

theorem viewBin_idxa {op:BinOp} {t:TypeId} {n:Nat}:viewBin P op t≠some (.idxa n):=by
 intro h
 unfold viewBin at h
 split at h <;> try (cases h; done)
 ·split at h <;> cases h
 ·split at h
  ·split at h <;> cases h
  ·cases h
theorem viewConv_idxa {s t:TypeId} {d n:Nat}:viewConv P s t d≠some (.idxa n):=by
 intro h
 unfold viewConv at h
 split at h <;> first | (cases h; done) | (split at h <;> cases h)
theorem viewBin_load {op:BinOp} {t:TypeId} {n:Nat} {g:Bool}:viewBin P op t≠some (.load n g):=by
 intro h
 unfold viewBin at h
 split at h <;> try (cases h; done)
 ·split at h <;> cases h
 ·split at h
  ·split at h <;> cases h
  ·cases h
theorem viewConv_load {s t:TypeId} {d n:Nat} {g:Bool}:viewConv P s t d≠some (.load n g):=by
 intro h
 unfold viewConv at h
 split at h <;> first | (cases h; done) | (split at h <;> cases h)
theorem viewK_idxa {o:Oper} {sz:Nat} {xs:List Operand} (hv:viewK P o=some (.idxa sz,xs)):∃ t e x y,o.op=.indexAddr t x y∧xs=[x,y]∧P.underlying t=some (.slice e)∧szOf P e=some sz:=by
 cases hop:o.op with
 | indexAddr t x y =>
  simp only [viewK,hop] at hv
  split at hv
  ·cases hv
  ·simp only [Option.map_eq_some_iff,Prod.mk.injEq,K.idxa.injEq] at hv
   obtain ⟨⟨e,s⟩,he,rfl,rfl⟩:=hv
   obtain ⟨h1,h2⟩:=elemSz_some he
   exact ⟨t,e,x,y,rfl,rfl,h1,h2⟩
 | call cl =>
  exfalso
  simp only [viewK,hop,viewCall] at hv
  repeat' (first | (simp at hv; done) | split at hv | (injection hv with hv; simp only [Prod.mk.injEq] at hv; obtain ⟨h1,rfl⟩:=hv; unfold callK at h1; repeat' (first | (cases h1; done) | split at h1)))
 | binOp op t x y yt =>
  exfalso
  simp only [viewK,hop] at hv
  split at hv
  ·simp at hv
  simp only [Option.map_eq_some_iff,Prod.mk.injEq] at hv
  obtain ⟨k',hk,rfl,_⟩:=hv
  exact absurd hk viewBin_idxa
 | convert s t x =>
  exfalso
  simp only [viewK,hop] at hv
  split at hv
  ·simp only [Option.map_eq_some_iff,Prod.mk.injEq] at hv
   obtain ⟨k',hk,rfl,_⟩:=hv
   exact absurd hk viewConv_idxa
  ·cases hv
 | makeFunc fn first cap =>
  exfalso
  cases fn <;> simp only [viewK,hop] at hv <;> repeat' (first | (simp at hv; done) | split at hv)
 | _ =>
  exfalso
  simp only [viewK,hop] at hv
  repeat' (first | (simp at hv; done) | split at hv)
theorem viewK_load {o:Oper} {n:Nat} {g:Bool} {xs:List Operand} (hv:viewK P o=some (.load n g,xs)):∃ t x,o.op=.load t x∧xs=[x]∧loadInfo P t=some (n,g):=by
 cases hop:o.op with
 | load t x =>
  simp only [viewK,hop,Option.map_eq_some_iff,Prod.mk.injEq,K.load.injEq] at hv
  obtain ⟨⟨i,b⟩,he,⟨rfl,rfl⟩,rfl⟩:=hv
  exact ⟨t,x,rfl,rfl,he⟩
 | call cl =>
  exfalso
  simp only [viewK,hop,viewCall] at hv
  repeat' (first | (simp at hv; done) | split at hv | (injection hv with hv; simp only [Prod.mk.injEq] at hv; obtain ⟨h1,rfl⟩:=hv; unfold callK at h1; repeat' (first | (cases h1; done) | split at h1)))
 | binOp op t x y yt =>
  exfalso
  simp only [viewK,hop] at hv
  split at hv
  ·simp at hv
  simp only [Option.map_eq_some_iff,Prod.mk.injEq] at hv
  obtain ⟨k',hk,rfl,_⟩:=hv
  exact absurd hk viewBin_load
 | convert s t x =>
  exfalso
  simp only [viewK,hop] at hv
  split at hv
  ·simp only [Option.map_eq_some_iff,Prod.mk.injEq] at hv
   obtain ⟨k',hk,rfl,_⟩:=hv
   exact absurd hk viewConv_load
  ·cases hv
 | makeFunc fn first cap =>
  exfalso
  cases fn <;> simp only [viewK,hop] at hv <;> repeat' (first | (simp at hv; done) | split at hv)
 | _ =>
  exfalso
  simp only [viewK,hop] at hv
  repeat' (first | (simp at hv; done) | split at hv)
theorem step_val {o:Oper} {v:Value} (hnd:∀ c,o.op≠.defer c) (hr:(execOp a.eval o).run P w=.ok (.value v) w) {KK:Act→World→Prop} {Q:Exit→Act→World→Prop} {r:Option Nat} {m:Nat} (h:KK (a.put o.dst v) w):o.wpIn (Wd r) m P a w KK Q:=by
 refine ⟨fun _ _=>trivial,?_⟩
 rw [Oper.semAt_eq _ _ _ hnd,hr]
 exact h
end
end Go.Lg

namespace Go.Lg
set_option linter.unusedSimpArgs false
set_option linter.unusedVariables false
set_option linter.unusedSectionVars false
open Go.RowKit
variable [GL]
section
variable {P:Program} {N:Nat} {w:World} {a:Act}

/-- What marks one row,from a number on. -/
structure MarksRow (P:Program) (f:FuncId) (k:Int) (n:Nat):Prop where
 body:hasBody P f=true
 nil:n=0→Marks P f (.sl 1 []) k (·=.sl 1 []) k
 cut:0 < n→MarksCut P f k n
set_option maxHeartbeats 1000000 in
/-- One turn: the row at a place is marked. -/
theorem row_step {dc:Array Oper→Bool} {code:Code} {x xi xk x2 i2 p q k2 rr f id:Nat} {kill:List Nat}
  (hv:viewC P code=some (strip (.region false [⟨some x2,.mv,[.t x],none⟩,⟨some i2,.mv,[.t xi],none⟩,⟨some p,.idxa 1,[.t x2,.t i2],none⟩,⟨some q,.load 1 false,[.t p],none⟩,⟨some k2,.mv,[.t xk],none⟩,⟨some rr,.call f id,[.t q,.t k2],none⟩,⟨some xk,.mv,[.t rr],none⟩] kill))) (hok:okC N dc code=true)
  (hd:[x,xi,xk,x2,i2,p,q,k2,rr].Nodup) (hsz:a.tmps.size=N) {B:Nat} {ok:Nat→Prop} (hokB:∀ b,ok b→B≤b) {V:Value} {us:List Value} {rs:List (List Int)} (h:RowsAt w B ok V us rs) {i:Nat} {r:List Int} (hr:rs[i]?=some r) {k:Int}
  (hx:tval a x=V) (hi:tval a xi=.int .i64 i) (hk:tval a xk=.int .i64 k) (hM:MarksRow P f k r.length) (hg:GlobC ⟨w,fun _=>True,[]⟩) (ht:∀ q∈GL.gl,q.1 < B)
  {r':Option Nat} {m:Nat} {Q:Exit→Act→World→Prop}
  (hQ:∀ a' w' rs',RowsAt w' B ok V us rs'→rs'.map List.length=rs.map List.length→rs'[i]?=some (marksI k r.length)→(blkDst us→∀ j,j≠i→rs'[j]?=rs[j]?)→Chg ok w w'→tval a' x=V→tval a' xi=.int .i64 i→tval a' xk=.int .i64 (k+r.length)→a'.tmps.size=N→a'.defers=a.defers→Q .normal a' w'):code.wpIn (Wd r') m P Q a w:=by
 cases code <;> simp only [viewC,strip] at hv <;> try (repeat' (first | (simp at hv; done) | (exact (viewB_off hv rfl).elim) | split at hv))
 rename_i cid ops draw _ ls hls
 simp only [Option.some.injEq,LC.region.injEq,and_true] at hv
 obtain ⟨rfl,rfl⟩:=hv
 simp only [okC,Bool.and_eq_true,List.all_eq_true] at hok
 have hok:=hok.1
 obtain ⟨o1,os1,e1,v1,hls⟩:=viewOps_cons hls
 obtain ⟨o2,os2,rfl,v2,hls⟩:=viewOps_cons hls
 obtain ⟨o3,os3,rfl,v3,hls⟩:=viewOps_cons hls
 obtain ⟨o4,os4,rfl,v4,hls⟩:=viewOps_cons hls
 obtain ⟨o5,os5,rfl,v5,hls⟩:=viewOps_cons hls
 obtain ⟨o6,os6,rfl,v6,hls⟩:=viewOps_cons hls
 obtain ⟨o7,os7,rfl,v7,hls⟩:=viewOps_cons hls
 have:=viewOps_nil hls
 subst this
 rw [e1] at hok
 have k1:=hok o1 (by simp)
 have k2':=hok o2 (by simp)
 have k3:=hok o3 (by simp)
 have k4:=hok o4 (by simp)
 have k5:=hok o5 (by simp)
 have k6:=hok o6 (by simp)
 have k7:=hok o7 (by simp)
 obtain ⟨d1,⟨xs1,q1,p1⟩,w1⟩:=viewOp_plain v1 rfl
 obtain ⟨d2,⟨xs2,q2,p2⟩,w2⟩:=viewOp_plain v2 rfl
 obtain ⟨d3,⟨xs3,q3,p3⟩,w3⟩:=viewOp_plain v3 rfl
 obtain ⟨d4,⟨xs4,q4,p4⟩,w4⟩:=viewOp_plain v4 rfl
 obtain ⟨d5,⟨xs5,q5,p5⟩,w5⟩:=viewOp_plain v5 rfl
 obtain ⟨d6,⟨xs6,q6,p6⟩,w6⟩:=viewOp_plain v6 rfl
 obtain ⟨d7,⟨xs7,q7,p7⟩,w7⟩:=viewOp_plain v7 rfl
 simp only at d1 d2 d3 d4 d5 d6 d7 q1 q2 q3 q4 q5 q6 q7 p1 p2 p3 p4 p5 p6 p7
 rw [d1] at k1
 rw [d2] at k2'
 rw [d3] at k3
 rw [d4] at k4
 rw [d5] at k5
 rw [d6] at k6
 rw [d7] at k7
 have k1:=opx_lt k1
 have k2':=opx_lt k2'
 have k3:=opx_lt k3
 have k4:=opx_lt k4
 have k5:=opx_lt k5
 have k6:=opx_lt k6
 have k7:=opx_lt k7
 obtain ⟨y1,rfl,o1p⟩:=viewK_mv q1
 obtain ⟨y2,rfl,o2p⟩:=viewK_mv q2
 obtain ⟨y5,rfl,o5p⟩:=viewK_mv q5
 obtain ⟨y7,rfl,o7p⟩:=viewK_mv q7
 obtain ⟨_,hy,p1⟩:=viewOpds_one p1
 simp only [List.cons.injEq,and_true] at hy
 subst hy
 obtain ⟨_,hy,p2⟩:=viewOpds_one p2
 simp only [List.cons.injEq,and_true] at hy
 subst hy
 obtain ⟨_,hy,p5⟩:=viewOpds_one p5
 simp only [List.cons.injEq,and_true] at hy
 subst hy
 obtain ⟨_,hy,p7⟩:=viewOpds_one p7
 simp only [List.cons.injEq,and_true] at hy
 subst hy
 obtain ⟨t3,e3,ya,yb,o3p,hy3,u3,s3⟩:=viewK_idxa q3
 obtain ⟨za,zb,hz3,p3a,p3b⟩:=viewOpds_two p3
 rw [hz3] at hy3
 simp only [List.cons.injEq,and_true] at hy3
 obtain ⟨rfl,rfl⟩:=hy3
 obtain ⟨t4,yc,o4p,hy4,l4⟩:=viewK_load q4
 obtain ⟨zc,hz4,p4⟩:=viewOpds_one p4
 rw [hz4] at hy4
 simp only [List.cons.injEq,and_true] at hy4
 subst hy4
 obtain ⟨s4,g4,_⟩:=loadInfo_some l4
 obtain ⟨zd,ze,rfl,p6a,p6b⟩:=viewOpds_two p6
 simp only [List.nodup_cons,List.mem_cons,List.not_mem_nil,not_or,or_false,List.nodup_nil,and_true,not_false_eq_true] at hd
 obtain ⟨⟨a1,a2,a3,a4,a5,a6,a7,a8⟩,⟨b1,b2,b3,b4,b5,b6,b7⟩,⟨c1,c2,c3,c4,c5,c6⟩,⟨f1,f2,f3,f4,f5⟩,⟨g1,g2,g3,g4'⟩,⟨h1,h2,h3⟩,⟨i1,i3⟩,j1⟩:=hd
 have S:∀ {s:Nat} {b:Act} {d:Nat} {v:Value},d≠s→tval (b.put (some d) v) s=tval b s:=fun hne=>put_tval _ _ _ (by simpa using hne)
 -- the row's cell
 have hil:i < us.length:=by rw [h.len]; exact (List.getElem?_eq_some_iff.1 hr).1
 obtain ⟨u,hu⟩:∃ u,us[i]?=some u:=⟨us[i],List.getElem?_eq_getElem hil⟩
 have hRow:=h.row i u r hu hr
 obtain ⟨g,cap,ty,hV,hne,hc1,hc2,hokg,hBg,hlt,hrow⟩:=h.out.resolve_left (fun q=>by rw [q.1] at hil; simp at hil)
 refine wpIn_region_list ?_
 rw [e1]
 refine wpListIn_step (fun K hK=>?_)
 rw [if_pos (w1 _)]
 refine step_mv o1p (hK _ _ ?_)
 rw [d1,eval_t p1,hx]
 refine wpListIn_step (fun K hK=>?_)
 rw [if_pos (w2 _)]
 refine step_mv o2p (hK _ _ ?_)
 rw [d2,eval_t p2,S (by exact fun e=>b2 e.symm),hi]
 have z1:(a.put (some x2) V).tmps.size=N:=by rw [put_size,hsz]
 have z2:((a.put (some x2) V).put (some i2) (.int .i64 i)).tmps.size=N:=by rw [put_size,z1]
 refine wpListIn_step (fun K hK=>?_)
 rw [if_pos (w3 _)]
 refine step_val (fun c hc=>by rw [o3p] at hc; cases hc) (v:=.pointer (some ((⟨g,0,none⟩:Addr).add (i * 1)))) ?_ (hK _ _ ?_)
 ·have ea:((a.put (some x2) V).put (some i2) (.int .i64 i)).eval za=.slice (some ⟨g,0,none⟩) us.length cap:=by
   rw [eval_t p3a,S (by exact fun e=>f1 e.symm),put_tval_self _ (by rw [hsz]; exact k1.1) k1.2,hV]
  have eb:((a.put (some x2) V).put (some i2) (.int .i64 i)).eval zb=.int .i64 i:=by
   rw [eval_t p3b,put_tval_self _ (by rw [z1]; exact k2'.1) k2'.2]
  simp only [execOp,o3p,ea,eb,Sem.run_bind,run_indexAt u3 s3 ⟨g,0,none⟩ us.length cap (i:Int) (Int.natCast_nonneg i) (by omega),Result.andThen_ok,Int.toNat_natCast]
  rfl
 rw [d3]
 have z3:(((a.put (some x2) V).put (some i2) (.int .i64 i)).put (some p) (.pointer (some ((⟨g,0,none⟩:Addr).add (i * 1))))).tmps.size=N:=by rw [put_size,z2]
 refine wpListIn_step (fun K hK=>?_)
 rw [if_pos (w4 _)]
 refine step_val (fun c hc=>by rw [o4p] at hc; cases hc) (v:=u) ?_ (hK _ _ ?_)
 ·have ec:(((a.put (some x2) V).put (some i2) (.int .i64 i)).put (some p) (.pointer (some ((⟨g,0,none⟩:Addr).add (i * 1))))).eval zc=.pointer (some ((⟨g,0,none⟩:Addr).add (i * 1))):=by
   rw [eval_t p4,put_tval_self _ (by rw [z2]; exact k3.1) k3.2]
  have hcell:w.cell? ((⟨g,0,none⟩:Addr).add (i * 1))=some u:=by
   rw [hV] at hrow
   rw [Nat.mul_one]
   exact hrow.cells rfl i u hu
  simp only [execOp,o4p,ec,Sem.run_bind,run_load_one t4 g4 _ u hcell,Result.andThen_ok]
  rfl
 rw [d4]
 have z4:((((a.put (some x2) V).put (some i2) (.int .i64 i)).put (some p) (.pointer (some ((⟨g,0,none⟩:Addr).add (i * 1))))).put (some q) u).tmps.size=N:=by rw [put_size,z3]
 refine wpListIn_step (fun K hK=>?_)
 rw [if_pos (w5 _)]
 refine step_mv o5p (hK _ _ ?_)
 rw [d5,eval_t p5,S (by exact fun e=>c4 e.symm),S (by exact fun e=>c3 e.symm),S (by exact fun e=>c2 e.symm),S (by exact fun e=>c1 e.symm),hk]
 have z5:(((((a.put (some x2) V).put (some i2) (.int .i64 i)).put (some p) (.pointer (some ((⟨g,0,none⟩:Addr).add (i * 1))))).put (some q) u).put (some k2) (.int .i64 k)).tmps.size=N:=by rw [put_size,z4]
 refine wpListIn_step (fun K hK=>?_)
 rw [if_pos (w6 _)]
 refine step_call q6 hM.body ?_
 have ev:([zd,ze].map (((((a.put (some x2) V).put (some i2) (.int .i64 i)).put (some p) (.pointer (some ((⟨g,0,none⟩:Addr).add (i * 1))))).put (some q) u).put (some k2) (.int .i64 k)).eval).toArray=#[u,.int .i64 k]:=by
  simp only [List.map_cons,List.map_nil]
  rw [eval_t p6a,eval_t p6b,S (by exact fun e=>i1 e.symm),put_tval_self _ (by rw [z3]; exact k4.1) k4.2,put_tval_self _ (by rw [z4]; exact k5.1) k5.2]
 rw [ev]
 -- what the call does
 have hcall:Calls P f #[u,.int .i64 k] w fun e w'=>e=.returned (.int .i64 (k+r.length))∧Chg ok w w'∧∃ rs',RowsAt w' B ok V us rs'∧rs'.map List.length=rs.map List.length∧rs'[i]?=some (marksI k r.length)∧(blkDst us→∀ j,j≠i→rs'[j]?=rs[j]?):=by
  rcases hRow with ⟨rfl,A,cp,rfl,hm⟩ | ⟨gr,cp,tr,cur,rfl,hner,hokr,hBr,m1,m2,m3,m4,m5⟩
  ·refine ((hM.nil rfl).2 w B (fun _=>False) _ (fun b hb=>hb.elim) (.inl (.sl0 1 A cp hm)) hg ht).mono ?_
   rintro e w' ⟨rfl,hc,_,_,_⟩
   have hbl:Below w.heap.size w w':=⟨hc.os,hc.tape,hc.output,hc.size,fun b hb=>hc.heap b hb (fun q=>q)⟩
   refine ⟨by simp,⟨hc.os,hc.tape,hc.output,hc.size,fun b hb _=>hc.heap b hb (fun q=>q)⟩,rs,h.keep hbl,rfl,by rw [hr]; rfl,fun _ _ _=>rfl⟩
  ·have hle:=ipre_le m5
   refine ((hM.cut (List.length_pos_iff.2 hner)).2 w gr cp tr cur (ipre cur.toList) m1 m2 m4 (List.length_pos_iff.2 hner) hle (by have h1:=ipre_len cur.toList; have h2:cur.toList.length=cur.size:=Array.length_toList; omega) (ipre_take _) hg (fun q hq e=>by have:=ht q hq; omega)).mono ?_
   rintro e w' ⟨rfl,hc,cur',n1,n2,n3⟩
   obtain ⟨rs',R1,R2,R3,R4⟩:=h.mark hu hr rfl hner m1 m2 hc n1 n2 n3 (by rw [List.length_append,marksI_len,List.length_drop]; omega)
   refine ⟨rfl,⟨hc.os,hc.tape,hc.output,hc.size,fun b hb hnb=>hc.heap b hb (fun q=>hnb (by rw [q]; exact hokr))⟩,rs',R1,R2,?_,R4⟩
   rw [R3,List.take_append_of_le_length (by rw [marksI_len]; exact Nat.le_refl _),List.take_of_length_le (by rw [marksI_len]; exact Nat.le_refl _)]
 refine hcall.mono ?_
 rintro e w' ⟨rfl,hc,rs',R1,R2,R3,R4⟩
 refine ⟨_,rfl,hK _ _ ?_⟩
 rw [d6]
 refine wpListIn_step (fun K hK=>?_)
 rw [if_pos (w7 _)]
 refine step_mv o7p (hK _ _ (wpListIn_nil ?_))
 have z6:((((((a.put (some x2) V).put (some i2) (.int .i64 i)).put (some p) (.pointer (some ((⟨g,0,none⟩:Addr).add (i * 1))))).put (some q) u).put (some k2) (.int .i64 k)).put (some rr) (.int .i64 (k+r.length))).tmps.size=N:=by rw [put_size,z5]
 rw [d7,eval_t p7,put_tval_self _ (by rw [z5]; exact k6.1) k6.2]
 refine hQ _ _ rs' R1 R2 R3 R4 hc ?_ ?_ ?_ (by rw [put_size,z6]) (by rw [put_defers,put_defers,put_defers,put_defers,put_defers,put_defers,put_defers])
 ·rw [S (by exact fun e=>a2 e.symm),S (by exact fun e=>a8 e.symm),S (by exact fun e=>a7 e.symm),S (by exact fun e=>a6 e.symm),S (by exact fun e=>a5 e.symm),S (by exact fun e=>a4 e.symm),S (by exact fun e=>a3 e.symm),hx]
 ·rw [S (by exact fun e=>b1 e.symm),S (by exact fun e=>b7 e.symm),S (by exact fun e=>b6 e.symm),S (by exact fun e=>b5 e.symm),S (by exact fun e=>b4 e.symm),S (by exact fun e=>b3 e.symm),S (by exact fun e=>b2 e.symm),hi]
 ·rw [put_tval_self _ (by rw [z6]; exact k7.1) k7.2]
end
end Go.Lg

namespace Go.Lg
set_option linter.unusedSimpArgs false
set_option linter.unusedVariables false
set_option linter.unusedSectionVars false
open Go.RowKit
variable [GL]
section
variable {P:Program} {N:Nat}

theorem seqX {dc:Array Oper→Bool} {l1 l2:LC} {code:Code} (hv:viewC P code=some (strip (.seq l1 l2))) (hok:okC N dc code=true):∃ c1 c2,code=.seq c1 c2∧viewC P c1=some (strip l1)∧viewC P c2=some (strip l2)∧okC N dc c1=true∧okC N dc c2=true:=by
 cases code <;> simp only [viewC,strip] at hv <;> try (repeat' (first | (simp at hv; done) | (exact (viewB_off hv rfl).elim) | split at hv))
 rename_i c1 c2 _ x1 hx1 _ x2 hx2
 simp only [Option.some.injEq,LC.seq.injEq] at hv
 obtain ⟨rfl,rfl⟩:=hv
 simp only [okC,Bool.and_eq_true] at hok
 exact ⟨c1,c2,rfl,hx1,hx2,hok.1,hok.2⟩
theorem blockX {dc:Array Oper→Bool} {id:Nat} {l:LC} {code:Code} (hv:viewC P code=some (strip (.block id l))) (hok:okC N dc code=true):∃ c1,code=.block id c1∧viewC P c1=some (strip l)∧okC N dc c1=true:=by
 cases code <;> simp only [viewC,strip] at hv <;> try (repeat' (first | (simp at hv; done) | (exact (viewB_off hv rfl).elim) | split at hv))
 rename_i id' c1
 simp only [Option.map_eq_some_iff,LC.block.injEq] at hv
 obtain ⟨x1,hx1,rfl,rfl⟩:=hv
 simp only [okC] at hok
 exact ⟨c1,rfl,hx1,hok⟩
theorem loopX {dc:Array Oper→Bool} {l:LC} {code:Code} (hv:viewC P code=some (strip (.loop l))) (hok:okC N dc code=true):∃ c1,code=.loop c1∧viewC P c1=some (strip l)∧okC N dc c1=true:=by
 cases code <;> simp only [viewC,strip] at hv <;> try (repeat' (first | (simp at hv; done) | (exact (viewB_off hv rfl).elim) | split at hv))
 rename_i c1
 simp only [Option.map_eq_some_iff,LC.loop.injEq] at hv
 obtain ⟨x1,hx1,rfl⟩:=hv
 simp only [okC] at hok
 exact ⟨c1,rfl,hx1,hok⟩
theorem retX {code:Code} (hv:viewC P code=some (strip .ret)):code=.ret:=by
 cases code <;> simp only [viewC,strip] at hv <;> try (repeat' (first | (simp at hv; done) | (exact (viewB_off hv rfl).elim) | split at hv))
 rfl

def mssA:LC:=.seq (.region false [⟨some 6,.mv,[.t 5],none⟩,⟨some 7,.mv,[.t 0],none⟩,⟨some 8,.len,[.t 7],none⟩,⟨some 9,.bin .lss,[.t 6,.t 8],none⟩] []) (.cond (.t 9) [] .skip (.exit 0))
def mssR (f0 id0:Nat):LC:=.region false [⟨some 12,.mv,[.t 0],none⟩,⟨some 13,.mv,[.t 5],none⟩,⟨some 14,.idxa 1,[.t 12,.t 13],none⟩,⟨some 15,.load 1 false,[.t 14],none⟩,⟨some 16,.mv,[.t 1],none⟩,⟨some 17,.call f0 id0,[.t 15,.t 16],none⟩,⟨some 1,.mv,[.t 17],none⟩] []
def mssI:LC:=.region false [⟨some 10,.mv,[.t 5],none⟩,⟨some 11,.bin .add,[.t 10,.c (.i 1)],none⟩,⟨some 5,.mv,[.t 11],none⟩] []
def mssL (f0 id0:Nat):LC:=.seq mssA (.seq (.block 1 (mssR f0 id0)) mssI)
def mssZ:LC:=.region false [⟨some 18,.mv,[.t 1],none⟩,⟨some 4,.mv,[.t 18],none⟩] []
def mssB (f0 id0:Nat):LC:=.seq (.region false [⟨some 4,.mv,[.c (.i 0)],none⟩] []) (.seq (.seq (.region false [⟨some 5,.mv,[.c (.i 0)],none⟩] []) (.block 0 (.loop (mssL f0 id0)))) (.seq mssZ .ret))
theorem mssA_ok {lf:Nat→Option LF} (es:List DV) (k i:Int):ex lf mssA ⟨[(0,.sl 0 es),(1,.i k),(5,.i i)],[]⟩=some (if i < es.length then .normal else .exit 0,⟨[(0,.sl 0 es),(1,.i k),(5,.i i),(6,.i i),(7,.sl 0 es),(8,.i es.length),(9,.b (decide (i < es.length)))],[]⟩):=by
 refine ex_iff.2 ⟨0,?_⟩
 by_cases h:i < es.length
 ·simp [mssA,exec,regionL,runR,runL,stepL,eff,effP,LS.get,look,putD,put,LS.drop,h,binD,binI]
 ·simp [mssA,exec,regionL,runR,runL,stepL,eff,effP,LS.get,look,putD,put,LS.drop,h,binD,binI]
theorem mssI_ok {lf:Nat→Option LF} (es:List DV) (k i:Int) (h0:0≤i) (h1:i < 2000000000):ex lf mssI ⟨[(0,.sl 0 es),(1,.i k),(5,.i i)],[]⟩=some (.normal,⟨[(0,.sl 0 es),(1,.i k),(5,.i (i+1)),(10,.i i),(11,.i (i+1))],[]⟩):=by
 have w:wr (i+1)=i+1:=by unfold wr Go.IntKind.wrap; simp [Go.IntKind.bits,Go.IntKind.signed]; omega
 refine ex_iff.2 ⟨0,?_⟩
 simp [mssI,exec,regionL,runR,runL,stepL,eff,effP,LS.get,look,putD,put,LS.drop,binD,binI,w]
theorem mssZ_ok {lf:Nat→Option LF} (es:List DV) (k i:Int):ex lf mssZ ⟨[(0,.sl 0 es),(1,.i k),(5,.i i)],[]⟩=some (.normal,⟨[(0,.sl 0 es),(1,.i k),(4,.i k),(5,.i i),(18,.i k)],[]⟩):=by
 refine ex_iff.2 ⟨0,?_⟩
 simp [mssZ,exec,regionL,runR,runL,stepL,eff,effP,LS.get,look,putD,put,LS.drop]
theorem mssC_ok {lf:Nat→Option LF} (es:List DV) (k:Int) (t:Nat) (h:t=4∨t=5):ex lf (.region false [⟨some t,.mv,[.c (.i 0)],none⟩] []) ⟨[(0,.sl 0 es),(1,.i k)],[]⟩=some (.normal,⟨[(0,.sl 0 es),(1,.i k),(t,.i 0)],[]⟩):=by
 refine ex_iff.2 ⟨0,?_⟩
 rcases h with rfl | rfl <;> simp [exec,regionL,runR,runL,stepL,eff,effP,LS.get,look,putD,put,LS.drop]
/-- The marks of all rows,one after the other. -/
def mrkR:Int→List (List Int)→List (List Int)
 | _,[]=>[]
 | k,r :: rs=>marksI k r.length :: mrkR (k+r.length) rs
def totR:List (List Int)→Nat
 | []=>0
 | r :: rs=>r.length+totR rs
theorem totR_app:∀ (a b:List (List Int)),totR (a++b)=totR a+totR b
 | [],b=>by simp [totR]
 | r :: a,b=>by simp only [List.cons_append,totR,totR_app a b]; omega
theorem mrkR_app:∀ (k:Int) (a b:List (List Int)),mrkR k (a++b)=mrkR k a++mrkR (k+totR a) b
 | k,[],b=>by simp [mrkR,totR]
 | k,r :: a,b=>by
  simp only [List.cons_append,mrkR,totR]
  rw [mrkR_app (k+r.length) a b]
  congr 3
  omega
theorem mrkR_len:∀ (k:Int) (a:List (List Int)),(mrkR k a).length=a.length
 | k,[]=>rfl
 | k,r :: a=>by simp only [mrkR,List.length_cons,mrkR_len]
theorem glob_chg {w w':World} {B:Nat} {ok:Nat→Prop} (hg:GlobC ⟨w,fun _=>True,[]⟩) (ht:∀ q∈GL.gl,q.1 < B) (hokB:∀ b,ok b→B≤b) (h:Chg ok w w'):GlobC ⟨w',fun _=>True,[]⟩:=by
 intro r hr
 obtain ⟨h1,h2,h3,xs,h4,h5⟩:=hg r hr
 refine ⟨Nat.lt_of_lt_of_le h1 h.size,trivial,fun q hq=>(by cases hq),xs,fun j u hu=>?_,h5⟩
 rw [← h4 j u hu]
 refine World.cell?_of_block ?_
 rw [block_add]
 exact h.heap _ h1 (fun q=>by have h6:B≤r.1:=hokB _ q; have:=ht r hr; omega)
theorem Chg.refl (ok:Nat→Prop) (w:World):Chg ok w w:=⟨rfl,rfl,rfl,Nat.le_refl _,fun _ _ _=>rfl⟩
theorem Chg.trans {ok:Nat→Prop} {w w' w'':World} (h:Chg ok w w') (k:Chg ok w' w''):Chg ok w w'':=⟨k.os.trans h.os,k.tape.trans h.tape,k.output.trans h.output,Nat.le_trans h.size k.size,fun b hb hn=>(k.heap b (Nat.lt_of_lt_of_le hb h.size) hn).trans (h.heap b hb hn)⟩
theorem Below.chg {w w':World} (ok:Nat→Prop) (h:Below w.heap.size w w'):Chg ok w w':=⟨h.os,h.tape,h.output,h.size,fun b hb _=>h.block b hb⟩

/-- What is so ahead of each turn. -/
structure MssI (wI:World) (N B:Nat) (ok:Nat→Prop) (V:Value) (us:List Value) (rs0:List (List Int)) (k0:Int) (i:Nat) (a:Act) (w:World):Prop where
 rows:∃ rs,RowsAt w B ok V us rs∧rs.map List.length=rs0.map List.length∧(blkDst us→rs=mrkR k0 (rs0.take i)++rs0.drop i)
 chg:Chg ok wI w
 x:tval a 0=V
 k:tval a 1=.int .i64 (k0+totR (rs0.take i))
 i:tval a 5=.int .i64 i
 len:a.tmps.size=N
 dfs:a.defers=[]
theorem MssI.seam {wI w:World} {B:Nat} {ok:Nat→Prop} {V:Value} {us:List Value} {rs0 rs:List (List Int)} {k0:Int} {i:Nat} {a:Act} (h:MssI wI N B ok V us rs0 k0 i a w) (hR:RowsAt w B ok V us rs) (hg:GlobC ⟨w,fun _=>True,[]⟩) :
  Seam w N [⟨0,B,ok,dRs rs⟩,⟨1,0,fun _=>False,.i (k0+totR (rs0.take i))⟩,⟨5,0,fun _=>False,.i i⟩] a w:=by
 refine ⟨rfl,rfl,rfl,Nat.le_refl _,fun _ _=>rfl,hg,h.len,h.dfs,fun f hf=>?_⟩
 simp only [List.mem_cons,List.not_mem_nil,or_false] at hf
 rcases hf with rfl | rfl | rfl
 ·unfold Fact.So
  rw [h.x]
  exact .inl hR.cr
 ·unfold Fact.So
  rw [h.k]
  exact .inl (.i _)
 ·unfold Fact.So
  rw [h.i]
  exact .inl (.i _)
theorem Kept.at {ts:List Nat} {a a':Act} (h:Kept ts a a') {t:Nat} {v:Value} (ha:tval a t=v) (ht:t∉ts):tval a' t=v:=(h.1 t ht).trans ha
set_option maxHeartbeats 1000000 in
theorem mss_loop {lf:Nat→Option LF} (hS:∀ n,CallOk P (callN lf n)) {dc:Array Oper→Bool} {f0 id0:Nat} {code:Code} (hv:viewC P code=some (strip (mssL f0 id0))) (hok:okC N dc code=true) {wI:World} {B:Nat} {ok:Nat→Prop} (hokB:∀ b,ok b→B≤b) (hgI:GlobC ⟨wI,fun _=>True,[]⟩) (ht:∀ q∈GL.gl,q.1 < B)
  {V:Value} {us:List Value} {rs0:List (List Int)} {k0:Int} (hlen:us.length=rs0.length) (hn:rs0.length≤1048576) (hM:∀ (i:Nat) (r:List Int),rs0[i]?=some r→MarksRow P f0 (k0+totR (rs0.take i)) r.length) {m:Nat} {Q:Exit→Act→World→Prop}
  (hQ:∀ a' w',MssI wI N B ok V us rs0 k0 rs0.length a' w'→Q (.exit 0) a' w'):∀ (q i:Nat) (a:Act) (w:World),i≤rs0.length→rs0.length - i < q→MssI wI N B ok V us rs0 k0 i a w→Code.roundsIn (Wd none) m P code Q q a w:=by
 intro q
 induction q with
 | zero=>intro i a w _ h; omega
 | succ q ih =>
  intro i a w hi hq h
  rw [roundsIn_succ]
  obtain ⟨rs,hR,hl,hd⟩:=h.rows
  have hg:=glob_chg hgI ht hokB h.chg
  have hsm:=h.seam hR hg
  obtain ⟨c1,c2,rfl,v1,v2,k1,k2⟩:=seqX hv hok
  have hrl:rs.length=rs0.length:=by have:=congrArg List.length hl; simpa using this
  have hA:=mssA_ok (lf:=lf) (lendL (rs.map fun r=>DV.sl 1 (r.map DV.i))) (k0+totR (rs0.take i)) (i:Int)
  have hll:(lendL (rs.map fun r=>DV.sl 1 (r.map DV.i))).length=rs0.length:=by rw [lendL_map]; simp [hrl]
  rw [hll] at hA
  refine wpIn_seq (hsm.ex hS (lc:=mssA) rfl v1 k1 hA (fun a1 w1 hs1 hb1 hst1 hk1=>?_))
  have n0:0∉LC.dsts mssA:=by decide
  have n1:1∉LC.dsts mssA:=by decide
  have n5:5∉LC.dsts mssA:=by decide
  have hI1:MssI wI N B ok V us rs0 k0 i a1 w1:=⟨⟨rs,hR.keep hb1,hl,hd⟩,h.chg.trans (Below.chg ok hb1),hk1.at h.x n0,hk1.at h.k n1,hk1.at h.i n5,hs1.len,hs1.dfs⟩
  by_cases hlt:i < rs0.length
  ·have hlt':(i:Int) < rs0.length:=by omega
   rw [if_pos hlt']
   obtain ⟨r0,hr0⟩:∃ r,rs0[i]?=some r:=⟨rs0[i],List.getElem?_eq_getElem hlt⟩
   obtain ⟨r,hr⟩:∃ r,rs[i]?=some r:=⟨rs[i]'(by omega),List.getElem?_eq_getElem _⟩
   have hrl':r.length=r0.length:=by
    have:=congrArg (fun l=>l[i]?) hl
    simp only [List.getElem?_map,hr,hr0,Option.map_some,Option.some.injEq] at this
    exact this
   obtain ⟨c3,c4,rfl,v3,v4,k3,k4⟩:=seqX v2 k2
   obtain ⟨c5,rfl,v5,k5⟩:=blockX v3 k3
   have hg1:=glob_chg hgI ht hokB hI1.chg
   have hM':=hM i r0 hr0
   rw [← hrl'] at hM'
   refine wpIn_seq (wpIn_block (row_step v5 k5 (by decide) hI1.len hokB (hR.keep hb1) hr hI1.x hI1.i hI1.k hM' hg1 ht (fun a2 w2 rs2 R1 R2 R3 R4 hc2 x2 i2 kk2 l2 d2=>?_)))
   have ht1:rs0.take (i+1)=rs0.take i++[r0]:=by rw [List.take_add_one,hr0]; rfl
   have htot:totR (rs0.take (i+1))=totR (rs0.take i)+r0.length:=by rw [ht1,totR_app]; simp [totR]
   have hg2:=glob_chg hg1 ht hokB hc2
   have hI2:Seam w2 N [⟨0,B,ok,dRs rs2⟩,⟨1,0,fun _=>False,.i (k0+totR (rs0.take (i+1)))⟩,⟨5,0,fun _=>False,.i i⟩] a2 w2:=by
    refine ⟨rfl,rfl,rfl,Nat.le_refl _,fun _ _=>rfl,hg2,l2,d2.trans hI1.dfs,fun f hf=>?_⟩
    simp only [List.mem_cons,List.not_mem_nil,or_false] at hf
    rcases hf with rfl | rfl | rfl
    ·unfold Fact.So
     rw [x2]
     exact .inl R1.cr
    ·unfold Fact.So
     rw [kk2]
     have e:k0+totR (rs0.take i)+(r.length:Int)=k0+totR (rs0.take (i+1)):=by rw [htot,hrl']; omega
     rw [e]
     exact .inl (.i _)
    ·unfold Fact.So
     rw [i2]
     exact .inl (.i _)
   have hB:=mssI_ok (lf:=lf) (lendL (rs2.map fun r=>DV.sl 1 (r.map DV.i))) (k0+totR (rs0.take (i+1))) (i:Int) (by omega) (by omega)
   show Exit.inBlock 1 _ .normal a2 w2
   refine hI2.ex hS (lc:=mssI) rfl v4 k4 hB (fun a3 w3 hs3 hb3 hst3 hk3=>?_)
   refine ih (i+1) a3 w3 (by omega) (by omega) ⟨⟨rs2,R1.keep hb3,R2.trans hl,fun hbd=>?_⟩,(hI1.chg.trans hc2).trans (Below.chg ok hb3),hk3.at x2 (by decide),hk3.at ?_ (by decide),?_,hs3.len,hs3.dfs⟩
   ·have hd':=hd hbd
    have R4':=R4 hbd
    apply List.ext_getElem?
    intro j
    have la:(mrkR k0 (rs0.take i)).length=i:=by rw [mrkR_len,List.length_take]; omega
    have lb:(mrkR k0 (rs0.take (i+1))).length=i+1:=by rw [mrkR_len,List.length_take]; omega
    have e1:mrkR k0 (rs0.take (i+1))=mrkR k0 (rs0.take i)++[marksI (k0+totR (rs0.take i)) r0.length]:=by rw [ht1,mrkR_app]; rfl
    by_cases hj:j=i
    ·subst hj
     rw [R3,List.getElem?_append_left (by omega),e1,List.getElem?_append_right (by omega),la,Nat.sub_self,hrl']
     rfl
    ·rw [R4' j hj,hd']
     rcases Nat.lt_or_ge j i with h1 | h1
     ·rw [List.getElem?_append_left (by omega),List.getElem?_append_left (by omega),e1,List.getElem?_append_left (by omega)]
     ·rw [List.getElem?_append_right (by omega),List.getElem?_append_right (by omega),la,lb,List.getElem?_drop,List.getElem?_drop]
      congr 1
      omega
   ·rw [kk2,htot,hrl']
    congr 1
    omega
   ·have:=St.scal hst3 5 (d:=.i ((i:Int)+1)) rfl (.inl ⟨_,rfl⟩) 0 (fun _=>False)
    have h5:=XR.int this
    rw [h5]
    congr 1
  ·have hlt':¬ (i:Int) < rs0.length:=by omega
   rw [if_neg hlt']
   have e:i=rs0.length:=by omega
   subst e
   exact hQ a1 w1 hI1
end
end Go.Lg

namespace Go.Lg
set_option linter.unusedSimpArgs false
set_option linter.unusedVariables false
set_option linter.unusedSectionVars false
open Go.RowKit
variable [GL]
section
variable {P:Program}

theorem tval_args {vs:Array Value} {n t:Nat} (h:t < vs.size) (hb:t < 1048576):tval ({ tmps:=vs++Array.replicate n undef,defers:=[] }:Act) t=vs.getD t undef:=by
 rw [tval_lt _ hb]
 simp only [Array.getD_eq_getD_getElem?]
 rw [Array.getElem?_append_left h]
set_option maxHeartbeats 1000000 in
/-- The marks of a row of rows. -/
theorem marks_rows {lf:Nat→Option LF} {dc:Array Oper→Bool} (hok:∀ f F,lf f=some F→OkF P dc f F) (hD:∀ Γ,FnSound P Γ→DrawOk P Γ dc) (hB:BackSound P) {f:Nat} {F:LF} (hF:lf f=some F) (h0:F.prim=none) {f0 id0:Nat} (hbody:strip F.body=strip (mssB f0 id0)) (hnp:F.nparams=2) (hres:F.results=[.t 4])
  {rs0:List (List Int)} {k0:Int} (hn:rs0.length≤1048576) (hM:∀ (i:Nat) (r:List Int),rs0[i]?=some r→MarksRow P f0 (k0+totR (rs0.take i)) r.length) :
  Marks P f (dRs rs0) k0 (fun d=>∃ rs,d=dRs rs∧rs.map List.length=rs0.map List.length∧(Dst rs0→rs=mrkR k0 rs0)) (k0+totR rs0):=by
 have hS:∀ n,CallOk P (callN lf n):=fun n=>callOk_of (callN_sound hok hD hB n)
 rcases hok f F hF with ⟨_,hOk⟩ | ⟨g,hg',_⟩
 rotate_left
 ·rw [h0] at hg'; cases hg'
 obtain ⟨fn,code,hfn,hb,hne,hv,hokc,⟨hnp1,hnp2⟩,hrs⟩:=hOk.ok
 rw [hbody] at hv
 rw [hres] at hrs
 refine ⟨by simp [hasBody,hfn,hb,hne],fun w B ok v hokB hx hg ht=>?_⟩
 have hcr:CR w B (Zk ok) (dRs rs0) v:=by
  rcases hx with h | ⟨_,_,h,_⟩
  ·exact h
  ·cases h
 obtain ⟨us,hR⟩:=RowsAt.of hcr rfl
 refine (callsIn_wide (n:=0)).1 (callsIn_of_wp_marks (F:=Wd none) hfn hb trivial ?_ rfl)
 obtain ⟨c1,c2,rfl,v1,v2,k1,k2⟩:=seqX hv hokc
 obtain ⟨c3,c4,rfl,v3,v4,k3,k4⟩:=seqX v2 k2
 obtain ⟨c5,c6,rfl,v5,v6,k5,k6⟩:=seqX v3 k3
 obtain ⟨c7,rfl,v7,k7⟩:=blockX v6 k6
 obtain ⟨c8,rfl,v8,k8⟩:=loopX v7 k7
 obtain ⟨c9,c10,rfl,v9,v10,k9,k10⟩:=seqX v4 k4
 have hret:=retX v10
 subst hret
 have hll:∀ rs:List (List Int),(lendL (rs.map fun r=>DV.sl 1 (r.map DV.i))).length=rs.length:=fun rs=>by rw [lendL_map]; simp
 have x0:tval ({ tmps:=#[v,.int .i64 k0]++Array.replicate (fn.ntmps - #[v,.int .i64 k0].size) undef,defers:=[] }:Act) 0=v:=tval_args (by simp) (by omega)
 have x1:tval ({ tmps:=#[v,.int .i64 k0]++Array.replicate (fn.ntmps - #[v,.int .i64 k0].size) undef,defers:=[] }:Act) 1=.int .i64 k0:=tval_args (by simp) (by omega)
 have s0:Seam w fn.ntmps [⟨0,B,ok,dRs rs0⟩,⟨1,0,fun _=>False,.i k0⟩] { tmps:=#[v,.int .i64 k0]++Array.replicate (fn.ntmps - #[v,.int .i64 k0].size) undef,defers:=[] } w:=by
  refine ⟨rfl,rfl,rfl,Nat.le_refl _,fun _ _=>rfl,hg,by simp; omega,rfl,fun q hq=>?_⟩
  simp only [List.mem_cons,List.not_mem_nil,or_false] at hq
  rcases hq with rfl | rfl
  ·unfold Fact.So
   rw [x0]
   exact .inl hcr
  ·unfold Fact.So
   rw [x1]
   exact .inl (.i k0)
 have hC4:=mssC_ok (lf:=lf) (lendL (rs0.map fun r=>DV.sl 1 (r.map DV.i))) k0 4 (.inl rfl)
 have hC5:=mssC_ok (lf:=lf) (lendL (rs0.map fun r=>DV.sl 1 (r.map DV.i))) k0 5 (.inr rfl)
 refine wpIn_seq (s0.ex hS (lc:=.region false [⟨some 4,.mv,[.c (.i 0)],none⟩] []) rfl v1 k1 hC4 (fun a1 w1 hs1 hb1 hst1 hk1=>?_))
 refine wpIn_seq (wpIn_seq (hs1.ex hS (lc:=.region false [⟨some 5,.mv,[.c (.i 0)],none⟩] []) rfl v5 k5 hC5 (fun a2 w2 hs2 hb2 hst2 hk2=>?_)))
 have h5:tval a2 5=.int .i64 0:=XR.int (St.scal hst2 5 (d:=.i 0) rfl (.inl ⟨_,rfl⟩) 0 (fun _=>False))
 have hbw:Below w.heap.size w w2:=hb1.trans ⟨hb2.os,hb2.tape,hb2.output,hb2.size,fun b hb=>hb2.block b (Nat.lt_of_lt_of_le hb hb1.size)⟩
 have hI:MssI w fn.ntmps B ok v us rs0 k0 0 a2 w2:=by
  refine ⟨⟨rs0,(hR.keep hb1).keep hb2,rfl,fun _=>by simp [mrkR]⟩,Below.chg ok hbw,hk2.at (hk1.at x0 (by decide)) (by decide),?_,h5,hs2.len,hs2.dfs⟩
  have:=hk2.at (hk1.at x1 (by decide)) (t:=1) (by decide)
  rw [this]
  simp [totR]
 refine wpIn_block (wpIn_loop_rounds (rs0.length+1) (mss_loop hS v8 k8 hokB hg ht hR.len hn hM (fun a3 w3 h3=>?_) (rs0.length+1) 0 a2 w2 (Nat.zero_le _) (by omega) hI))
 show Exit.inBlock 0 _ (.exit 0) a3 w3
 obtain ⟨rs,hR3,hl3,hd3⟩:=h3.rows
 have hg3:=glob_chg hg ht hokB h3.chg
 have hs3:=h3.seam hR3 hg3
 refine wpIn_seq (hs3.ex hS (lc:=mssZ) rfl v9 k9 (mssZ_ok (lf:=lf) _ _ _) (fun a4 w4 hs4 hb4 hst4 hk4=>?_))
 refine wpIn_ret ?_
 refine leaves_of hst4 hs4.dfs hrs (raws:=[.i (k0+totR (rs0.take rs0.length))]) rfl (fun O vals hm hlv hvr=>?_)
 rw [List.take_length] at hvr
 match vals,hlv with
 | [u],_ =>
  have hu:=(hvr 0 _ u rfl rfl).int
  subst hu
  refine ⟨rfl,h3.chg.trans (Below.chg ok hb4),dRs rs,⟨rs,rfl,hl3,fun hd=>?_⟩,.inl ?_⟩
  ·have:=hd3 (hR.dst hd)
   rw [List.take_length,List.drop_length,List.append_nil] at this
   exact this
  ·exact (hR3.keep hb4).cr

/-- From the code of a law,from seam to seam,to its answer. -/
theorem law_end {fn:Func} {N:Nat} {wI wK:World} {S:LS} {a:Act} {w:World} {fs:List Fact} (hsm:Seam wI N fs a w) (hs:St ⟨wK,fun _=>True,[]⟩ N S a w) {rls:List ResL} (hres:viewRes P fn.results.toList=some rls) (hr:resV S rls=some [.b true]) :
  LeavesInM (Wd none) 0 P fn a.tmps (fun e w'=>e=.returned (.bool true)∧Below wI.heap.size wI w') a.defers .returning w:=by
 refine leaves_of hs hsm.dfs hres hr (fun O vals hm hlv hvr=>?_)
 match vals,hlv with
 | [u],_ =>
  have hu:=(hvr 0 _ u rfl rfl).bool
  subst hu
  exact ⟨rfl,hsm.os,hsm.tape,hsm.output,hsm.size,hsm.low⟩
/-- What comes in from outside is all old. -/
theorem in_fact {w:World} {d:DV} {v:Value} {ok:OkT} (h:CR w w.heap.size ok d v) (hd:d.allOld=true):XR w w.heap.size (Zk fun b=>b < w.heap.size) d v:=.inl (h.old_ hd (fun b _ hb _=>hb))
end
end Go.Lg

namespace Go.Lg
set_option linter.unusedSimpArgs false
set_option linter.unusedVariables false
set_option linter.unusedSectionVars false
open Go.RowKit
variable [GL]
section
variable {P:Program} {N:Nat} {wI w:World} {fs:List Fact} {a:Act}

/-- What a piece has put into a slot. -/
def made (S:LS) (g:Nat×DV):Prop:=(settle S.ob (look S.sl g.1)).map Prod.fst=some g.2∧g.2.allNew=true∧g.2.adopt false=g.2∧∀ cs,g.2≠.st cs
/-- What is new lies from one world's end to the next one's. -/
def newF (lo hi:Nat) (g:Nat×DV):Fact:=⟨g.1,lo,fun b=>lo≤b∧b < hi,g.2⟩
/-- A piece,and what follows. -/
theorem Seam.base {lf:Nat→Option LF} (hS:∀ n,CallOk P (callN lf n)) (h:Seam wI N fs a w) {dc:Array Oper→Bool} {l1 l2:LC} {code:Code} (hv:viewC P code=some (strip (.seq l1 l2))) (hok:okC N dc code=true) (hl:l1.line=true) (keep:List Fact) (hk:∀ f∈keep,f∈fs∧f.t∉l1.dsts) (news:List (Nat×DV))
  (he:∃ S1,Lg.ex lf l1 ⟨envF fs,[]⟩=some (.normal,S1)∧∀ g∈news,made S1 g) {m:Nat} {Q:Exit→Act→World→Prop}
  (hQ:∀ c2 a' w',viewC P c2=some (strip l2)→okC N dc c2=true→w.heap.size≤w'.heap.size→Seam wI N (keep++news.map (newF w.heap.size w'.heap.size)) a' w'→c2.wpIn (Wd none) m P Q a' w'):code.wpIn (Wd none) m P Q a w:=by
 obtain ⟨c1,c2,rfl,v1,v2,k1,k2⟩:=seqX hv hok
 obtain ⟨S1,he,hm⟩:=he
 refine wpIn_seq (h.ex hS hl v1 k1 he (fun a1 w1 hs1 hb1 hst1 hk1=>?_))
 refine hQ c2 a1 w1 v2 k2 hb1.size (hs1.sub (fun g hg=>?_))
 rcases List.mem_append.1 hg with hg | hg
 ·obtain ⟨g1,g2⟩:=hk g hg
  exact hs1.so g (List.mem_filter.2 ⟨g1,by simpa using g2⟩)
 ·obtain ⟨⟨t,d⟩,hn,rfl⟩:=List.mem_map.1 hg
  obtain ⟨m1,m2,m3,m4⟩:=hm _ hn
  simp only [Option.map_eq_some_iff] at m1
  obtain ⟨⟨d',ob'⟩,e1,e2⟩:=m1
  simp only at e2
  subst e2
  exact hst1.fact t e1 m2 m3 m4
/-- A call that marks,and what follows. -/
theorem Seam.markS (h:Seam wI N fs a w) {dc:Array Oper→Bool} {code:Code} {x x2 k k2 r f id:Nat} {kill:List Nat} {l2:LC}
  (hv:viewC P code=some (strip (.seq (.region false [⟨some x2,.mv,[.t x],none⟩,⟨some k2,.mv,[.t k],none⟩,⟨some r,.call f id,[.t x2,.t k2],none⟩,⟨some k,.mv,[.t r],none⟩] kill) l2))) (hok:okC N dc code=true)
  {B:Nat} {ok:Nat→Prop} {d:DV} (hx:(⟨x,B,ok,d⟩:Fact)∈fs) {n n':Int} {Bk:Nat} {okk:Nat→Prop} (hk:(⟨k,Bk,okk,.i n⟩:Fact)∈fs) {R:DV→Prop} (hM:Marks P f d n R n')
  (hB:wI.heap.size≤B) (hokB:∀ b,ok b→B≤b) (hd:x2≠k2∧x≠x2∧x≠k2∧x≠r∧x≠k∧k≠x2∧k2≠x2∧r≠k) (gs:List Fact) (hg:∀ g∈gs,g∈fs∧g.t≠x2∧g.t≠k2∧g.t≠r∧g.t≠k) (hz:∀ g∈gs,∀ b,g.ok b→¬ ok b)
  {m:Nat} {Q:Exit→Act→World→Prop} (hQ:∀ c2 a' w' d',viewC P c2=some (strip l2)→okC N dc c2=true→w.heap.size≤w'.heap.size→R d'→Seam wI N (⟨x,B,ok,d'⟩ :: ⟨k,Bk,okk,.i n'⟩ :: gs) a' w'→c2.wpIn (Wd none) m P Q a' w'):code.wpIn (Wd none) m P Q a w:=by
 obtain ⟨c1,c2,rfl,v1,v2,k1,k2'⟩:=seqX hv hok
 refine wpIn_seq (h.mark v1 k1 (h.so _ hx) (h.so _ hk) hM hB hokB hd (gs:=gs) (fun g hgg=>?_) (fun a' w' d' hR hs hsz=>hQ c2 a' w' d' v2 k2' hsz hR hs))
 obtain ⟨g1,g2,g3,g4,g5⟩:=hg g hgg
 exact ⟨h.so g g1,g2,g3,g4,g5,fun b hb _=>hz g hgg b hb⟩
/-- A law's end: what its answer is. -/
def LawQ (wI:World) (N t:Nat) (e:Exit) (a:Act) (w:World):Prop:=e=.ret∧∃ gs,Seam wI N gs a w∧look (envF gs) t=.b true
theorem law_ret {t m:Nat} {code:Code} (hv:viewC P code=some (strip .ret)) (h:Seam wI N fs a w) (hl:look (envF fs) t=.b true):code.wpIn (Wd none) m P (LawQ wI N t) a w:=by
 have:=retX hv
 subst this
 exact wpIn_ret ⟨rfl,fs,h,hl⟩
theorem law_start {lf:Nat→Option LF} {dc:Array Oper→Bool} (hok:∀ f F,lf f=some F→OkF P dc f F) {f:Nat} {F:LF} (hF:lf f=some F) (h0:F.prim=none) {t:Nat} (hres:F.results=[.t t]) {vs:Array Value} (hvs:vs.size=F.nparams) (hg:GlobC ⟨w,fun _=>True,[]⟩)
  (hfs:∀ f∈fs,XR w f.B (Zk f.ok) f.d (vs.getD f.t undef)∧f.t < vs.size) (body:∀ (N:Nat) (code:Code) (a:Act),viewC P code=some (strip F.body)→okC N dc code=true→Seam w N fs a w→code.wpIn (Wd none) 0 P (LawQ w N t) a w) :
  Calls P f vs w fun e w'=>e=.returned (.bool true)∧Below w.heap.size w w':=by
 rcases hok f F hF with ⟨_,hOk⟩ | ⟨g,hg',_⟩
 rotate_left
 ·rw [h0] at hg'; cases hg'
 obtain ⟨fn,code,hfn,hb,hne,hv,hokc,⟨hnp1,hnp2⟩,hrs⟩:=hOk.ok
 rw [hres] at hrs
 refine (callsIn_wide (n:=0)).1 (callsIn_of_wp_marks (F:=Wd none) hfn hb trivial ?_ rfl)
 have s0:Seam w fn.ntmps fs { tmps:=vs++Array.replicate (fn.ntmps - vs.size) undef,defers:=[] } w:=by
  refine ⟨rfl,rfl,rfl,Nat.le_refl _,fun _ _=>rfl,hg,by simp; omega,rfl,fun q hq=>?_⟩
  obtain ⟨q1,q2⟩:=hfs q hq
  unfold Fact.So
  rw [tval_args q2 (by omega)]
  exact q1
 refine wpIn_mono (body fn.ntmps code _ hv hokc s0) (fun e a' w'=>?_)
 rintro ⟨rfl,gs,hs,hl⟩
 have fin:LeavesInM (Wd none) 0 P fn a'.tmps (fun e w'=>e=.returned (.bool true)∧Below w.heap.size w w') a'.defers .returning w':=law_end hs hs.st hrs (by
  simp only [resV]
  first | rfl | simp [hl])
 exact fin
end
end Go.Lg
