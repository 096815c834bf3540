/- Part E of a logical reading of translated Go: what a frame holds is said by lists, and each operation is proved against the model. No conditions. -/
import Derived.Test.YtffghabijlfpeaaDoorLgD
import Derived.Shelf.Spec.SlicesInsertGrow
import Derived.Shelf.Spec.SlicesGrow
import Derived.Shelf.SlGeneric
set_option linter.unusedSectionVars false
set_option linter.unusedVariables false
set_option linter.unusedSimpArgs false
namespace Go.Lg
open Go.RowKit Go.Proofs Go.Shelf
set_option linter.unusedVariables false

theorem setCells_rest (b:Nat):∀ (vs:List Value) (o:Nat) (w:World),(w.setCells b o vs).os=w.os∧(w.setCells b o vs).tape=w.tape∧(w.setCells b o vs).output=w.output∧(w.setCells b o vs).heap.size=w.heap.size∧∀ k,k≠b→(w.setCells b o vs).heap[k]?=w.heap[k]?
 | [],o,w=>⟨rfl,rfl,rfl,rfl,fun _ _=>rfl⟩
 | v :: r,o,w=>by
  obtain ⟨h1,h2,h3,h4,h5⟩:=setCells_rest b r (o+1) (w.setCell ⟨b,o,none⟩ v)
  refine ⟨h1,h2,h3,h4.trans (by simp [World.setCell]),fun k hk=>(h5 k hk).trans ?_⟩
  simp only [World.setCell,Array.getElem?_modify]
  rw [if_neg (fun e=>hk e.symm)]
theorem setCells_heap (b:Nat):∀ (vs:List Value) (o:Nat) (w:World) (cur:Array Value) (ty:TypeId) (fz:Nat×Nat),w.heap[b]?=some (.cells cur ty fz)→o+vs.length≤cur.size →
  (w.setCells b o vs).heap[b]?=some (.cells (cur.toList.take o++vs++cur.toList.drop (o+vs.length)).toArray ty fz)
 | [],o,w,cur,ty,fz,h,_=>by simp [World.setCells,h]
 | v :: r,o,w,cur,ty,fz,h,hl=>by
  simp only [List.length_cons] at hl
  have h1:(w.setCell ⟨b,o,none⟩ v).heap[b]?=some (.cells (cur.setIfInBounds o v) ty fz):=by
   simp only [World.setCell,Array.getElem?_modify,if_true,h,Option.map_some]
   simp
  have:=setCells_heap b r (o+1) _ _ ty fz h1 (by simp; omega)
  rw [World.setCells,this]
  congr 3
  have ho:o < cur.toList.length:=by simp; omega
  rw [Array.toList_setIfInBounds]
  generalize cur.toList=l at *
  have e1:(l.set o v).take (o+1)=l.take o++[v]:=by
   rw [List.take_set,List.take_add_one,List.set_append_right _ _ (by rw [List.length_take]; exact Nat.min_le_left _ _)]
   simp [List.length_take,Nat.min_eq_left (Nat.le_of_lt ho),List.getElem?_eq_getElem ho]
  have e2:(l.set o v).drop (o+1+r.length)=l.drop (o+1+r.length):=by rw [List.drop_set,if_pos (by omega)]
  rw [e1,e2,List.append_assoc,List.append_assoc,List.append_assoc]
  simp only [List.length_cons,List.singleton_append,List.cons_append,show o+1+r.length=o+(r.length+1) by omega]
  rfl
theorem alloc_heap (w:World) (o:Obj):(w.alloc o).heap[w.heap.size]?=some o:=by
 show (w.heap.push o)[w.heap.size]?=_
 simp
theorem over_room {l xv:List Value} {n m:Nat} (hx:xv.length=m) (hn:n+m≤l.length):(l.take n++xv++l.drop (n+m)).take (n+m)=l.take n++xv :=
 List.take_left' (by simp; omega)
theorem over_shift {l xv:List Value} {a n m:Nat} (hx:xv.length=m) (ha:a≤n) (hn:n+m≤l.length) :
  ((l.take (a+m)++(l.take n).drop a++l.drop (a+m+(n - a))).take a++xv++(l.take (a+m)++(l.take n).drop a++l.drop (a+m+(n - a))).drop (a+m)).take (n+m)=(l.take n).take a++xv++(l.take n).drop a:=by
 have t1:(l.take (a+m)++(l.take n).drop a++l.drop (a+m+(n - a))).take a=(l.take n).take a:=by
  rw [List.append_assoc,List.take_append_of_le_length (by simp; omega),List.take_take,List.take_take,Nat.min_eq_left (by omega),Nat.min_eq_left ha]
 have d1:(l.take (a+m)++(l.take n).drop a++l.drop (a+m+(n - a))).drop (a+m)=(l.take n).drop a++l.drop (a+m+(n - a)):=by
  rw [List.append_assoc]
  exact List.drop_left' (by simp; omega)
 rw [t1,d1,← List.append_assoc]
 exact List.take_left' (by simp; omega)
theorem over_grow {l xs xv:List Value} {a n m:Nat} (hx:xv.length=m) (hxs:xs.length=n) (ha:a≤n) (hn:n+m≤l.length) (ht:l.take a=xs.take a) :
  ((l.take a++xv++l.drop (a+m)).take (a+m)++xs.drop a++(l.take a++xv++l.drop (a+m)).drop (a+m+(n - a))).take (n+m)=xs.take a++xv++xs.drop a:=by
 have t1:(l.take a++xv++l.drop (a+m)).take (a+m)=xs.take a++xv:=by
  rw [List.take_left' (by simp; omega),ht]
 rw [t1]
 exact List.take_left' (by simp; omega)
/-- What a road of it leaves behind. -/
def InsPost (w:World) (hv:Value) (n m a:Nat) (xs0 xv:List Value) (e:Ending) (w':World):Prop :=
 ∃ v' e2,e=.returned v'∧w'.ownsRow 0 e2 1 v' (n+m) (xs0.take a++xv++xs0.drop a)∧w'.os=w.os∧w'.tape=w.tape∧w'.output=w.output∧w.heap.size≤w'.heap.size ∧
  (∀ b,b < w.heap.size→hv.ownBlock≠some b→w'.heap[b]?=w.heap[b]?)∧(v'.ownBlock=hv.ownBlock∨∃ g,v'.ownBlock=some g∧w.heap.size≤g)
section
variable {P:Program} {ρ:Ren}
theorem cell_of {w:World} {b:Nat} {cur:Array Value} {ty:TypeId} {n:Nat} {xs:List Value} (hb:w.heap[b]?=some (.cells cur ty (0,0))) (ht:cur.toList.take (n * 1)=xs):∀ (j:Nat) (v:Value),xs[j]?=some v→w.cell? ⟨b,0+j,none⟩=some v:=by
 intro j v hj
 subst ht
 rw [List.getElem?_take] at hj
 split at hj
 ·simp only [World.cell?,hb]
  simpa using hj
 ·cases hj
theorem frozen_of {w:World} {b j:Nat} {cur:Array Value} {ty:TypeId} (hb:w.heap[b]?=some (.cells cur ty (0,0))):w.frozen? ⟨b,j,none⟩=false:=by
 simp [World.frozen?,hb]
theorem ins_run (L:Lays2.n21 P ρ) {w:World} {hv hv2:Value} {n m a:Nat} {ty ty2:TypeId} {xs0 xv:List Value} (h1:w.ownsRow 0 ty 1 hv n xs0) (h2:w.ownsRow 0 ty2 1 hv2 m xv) (hm:0 < m) (ha:a≤n) (hb:n+m≤1073741824)
  (hne:∀ g,hv.ownBlock=some g→hv2.ownBlock≠some g) (c1:∀ v∈xs0,v.oneCell'=true) (c2:∀ v∈xv,v.oneCell'=true):Calls P (ρ.f 21) #[hv,.int .i64 a,hv2] w (InsPost w hv n m a xs0 xv):=by
 obtain ⟨l1,h1⟩:=h1
 obtain ⟨l2,h2⟩:=h2
 rw [Nat.mul_one] at l1 l2
 rcases h2 with ⟨_,h2⟩ | ⟨vb,vc,cur2,rfl,_,hvb,hvn,hvc,hvs,hvt⟩
 ·omega
 have V:=cell_of hvb hvt
 have hvlt:vb < w.heap.size:=(Array.getElem?_eq_some_iff.1 hvb).1
 have hmx:maxLen=9223372036854775807:=rfl
 rcases h1 with ⟨rfl,hn0⟩ | ⟨b,c,cur,rfl,_,hbb,hbn,hbc,hbs,hbt⟩
 ·subst hn0
  have ha0:a=0:=by omega
  subst ha0
  have hx0:xs0=[]:=List.eq_nil_of_length_eq_zero l1
  subst hx0
  refine (Any2.slices_Insert_int_end_grow L none 0 0 vb 0 m vc [] xv w hm (Nat.le_refl _) (by omega) (by omega) rfl l2 (fun _=>rfl) (fun a h=>by cases h) V c2).mono fun e w' ⟨he,hw⟩=>?_
  subst hw
  have hge:=grownCap_ge w (0+m) 0 (ρ.t 3)
  refine ⟨_,ρ.t 3,he,⟨by simp only [List.length_append,List.length_take,List.length_drop,List.length_nil]; omega,.inr ⟨w.heap.size,_,_,rfl,Nat.zero_le _,alloc_heap w.drew _,hge,grownCap_le_maxLen w _ _ _ (by omega),?_,?_⟩⟩,rfl,rfl,rfl,by rw [World.size_alloc]; exact Nat.le_succ _,fun b hb' _=>?_,.inr ⟨_,rfl,Nat.le_refl _⟩⟩
  ·have hge':m≤grownCap w m 0 (ρ.t 3):=grownCap_ge w m 0 _
   simp only [Array.size_append,List.size_toArray,size_zeroCells,List.nil_append,l2,Value.cells]
   simp; omega
  ·simp only [Array.toList_append,List.nil_append,List.take_zero,List.drop_nil,List.append_nil]
   rw [show (0+m) * 1=xv.length by omega]
   exact List.take_left
  ·exact Below.heap_alloc w.drew _ b hb'
 ·have C:=cell_of hbb hbt
  have hblt:b < w.heap.size:=(Array.getElem?_eq_some_iff.1 hbb).1
  have hvne:vb≠b:=fun e=>hne b rfl (by rw [← e]; rfl)
  have hdr:(World.drew w).heap[b]?=some (.cells cur ty (0,0)):=hbb
  rw [Nat.mul_one] at hbs hbt hvs hvt
  have hsp:∀ j,j < c→(w.cell? ⟨b,0+j,none⟩).isSome=true:=fun j hj=>by
   simp only [World.cell?,hbb]
   simp; omega
  by_cases hroom:n+m≤c
  ·by_cases hi:a < n
   ·refine (Any2.slices_Insert_int_shift L b 0 n c a vb 0 m vc xs0 xv w hi hm hroom (by omega) hvne l1 l2 C (fun j hj=>hsp j (by omega)) (fun j _=>frozen_of hbb) V c1 c2 ty2 ty cur2.size cur.size (by simp [World.shape?,hvb]) (by simp [World.shape?,hbb]) (by omega) (frozen_of hvb) (frozen_of hvb)).mono fun e w' ⟨he,hw⟩=>?_
    have s1:=setCells_heap b (xs0.drop a) (0+(a+m)) w.drew cur ty (0,0) hdr (by simp; omega)
    have s2:=setCells_heap b xv (0+a) _ _ ty (0,0) s1 (by simp; omega)
    obtain ⟨r1,r2,r3,r4,r5⟩:=setCells_rest b (xs0.drop a) (0+(a+m)) w.drew
    obtain ⟨q1,q2,q3,q4,q5⟩:=setCells_rest b xv (0+a) (w.drew.setCells b (0+(a+m)) (xs0.drop a))
    rw [← hw] at s2 q1 q2 q3 q4 q5
    refine ⟨_,ty,he,⟨by simp only [List.length_append,List.length_take,List.length_drop]; omega,.inr ⟨b,c,_,rfl,Nat.zero_le _,s2,hroom,hbc,?_,?_⟩⟩,q1.trans r1,q2.trans r2,q3.trans r3,by rw [q4,r4]; exact Nat.le_refl _,fun k hk hkb=>?_,.inl rfl⟩
    ·simp; omega
    ·simp only [List.toList_toArray,Nat.mul_one,Nat.zero_add]
     have e0:cur.toList.length=c:=by simpa using hbs
     generalize cur.toList=l at *
     subst hbt
     have:=over_shift (l:=l) (n:=n) l2 (Nat.le_of_lt hi) (by omega)
     simpa [l2,l1,List.length_drop,Nat.min_eq_left (show n≤l.length by omega)] using this
    ·have hkb':k≠b:=fun e=>hkb (by rw [e]; rfl)
     rw [q5 k hkb',r5 k hkb']; rfl
   ·have e:a=n:=by omega
    subst e
    refine (Any2.slices_Insert_int_end_room L b 0 a c vb 0 m vc xv w hm hroom (by omega) l2 (fun j hj=>by rw [Nat.add_assoc]; exact hsp _ (by omega)) (fun j _=>frozen_of hbb) V c2).mono fun e w' ⟨he,hw⟩=>?_
    have s2:=setCells_heap b xv (0+a) w cur ty (0,0) hbb (by omega)
    obtain ⟨q1,q2,q3,q4,q5⟩:=setCells_rest b xv (0+a) w
    rw [← hw] at s2 q1 q2 q3 q4 q5
    refine ⟨_,ty,he,⟨by simp only [List.length_append,List.length_take,List.length_drop]; omega,.inr ⟨b,c,_,rfl,Nat.zero_le _,s2,hroom,hbc,?_,?_⟩⟩,q1,q2,q3,by rw [q4]; exact Nat.le_refl _,fun k hk hkb=>?_,.inl rfl⟩
    ·simp; omega
    ·simp only [List.toList_toArray,Nat.mul_one,Nat.zero_add]
     have e0:cur.toList.length=c:=by simpa using hbs
     generalize cur.toList=l at *
     subst hbt
     have:=over_room (l:=l) (n:=a) l2 (by omega)
     simpa [l2,l1,List.take_take] using this
    ·have hkb':k≠b:=fun e=>hkb (by rw [e]; rfl)
     exact q5 k hkb'
  ·have hge:=grownCap_ge w (n+m) c (ρ.t 3)
   have hgl:=grownCap_le_maxLen w (n+m) c (ρ.t 3) (by omega)
   by_cases hi:a < n
   ·refine (Any2.slices_Insert_int_grow L b 0 n c a vb 0 m vc xs0 xv w hi hm hbn (by omega) (by omega) l1 l2 C V c1 c2).mono fun e w' ⟨he,hw⟩=>?_
    generalize hrow:(xs0.take a).toArray++Builtin.zeroCells (Value.int .i64 0).cells (n+m - a)++Builtin.zeroCells (Value.int .i64 0).cells (grownCap w (n+m) c (ρ.t 3) - (n+m))=row at hw
    have hrs:row.size=grownCap w (n+m) c (ρ.t 3):=by
     rw [← hrow]
     simp only [Array.size_append,List.size_toArray,size_zeroCells,Value.cells,List.length_take]
     simp only [List.size_toArray,List.length_singleton,Nat.mul_one]
     omega
    have hrt:row.toList.take a=xs0.take a:=by
     rw [← hrow]
     simp only [Array.toList_append,List.append_assoc]
     exact List.take_left' (by simp; omega)
    have s0:((w.alloc (.cells row (ρ.t 3))).drew).heap[w.heap.size]?=some (.cells row (ρ.t 3) (0,0)):=alloc_heap w _
    have s1:=setCells_heap w.heap.size xv a _ row (ρ.t 3) (0,0) s0 (by omega)
    have s2:=setCells_heap w.heap.size (xs0.drop a) (a+m) (World.drew _) _ (ρ.t 3) (0,0) s1 (by simp; omega)
    obtain ⟨r1,r2,r3,r4,r5⟩:=setCells_rest w.heap.size xv a ((w.alloc (.cells row (ρ.t 3))).drew)
    obtain ⟨q1,q2,q3,q4,q5⟩:=setCells_rest w.heap.size (xs0.drop a) (a+m) (World.drew (((w.alloc (.cells row (ρ.t 3))).drew).setCells w.heap.size a xv))
    rw [← hw] at s2 q1 q2 q3 q4 q5
    refine ⟨_,ρ.t 3,he,⟨by simp only [List.length_append,List.length_take,List.length_drop]; omega,.inr ⟨w.heap.size,_,_,rfl,Nat.zero_le _,s2,hge,hgl,?_,?_⟩⟩,q1.trans r1,q2.trans r2,q3.trans r3,?_,fun k hk hkb=>?_,.inr ⟨_,rfl,Nat.le_refl _⟩⟩
    ·simp; omega
    ·simp only [List.toList_toArray,Nat.mul_one]
     have e0:row.toList.length=grownCap w (n+m) c (ρ.t 3):=by simpa using hrs
     generalize row.toList=l at *
     have:=over_grow (l:=l) l2 l1 (Nat.le_of_lt hi) (by omega) hrt
     simpa [l2,l1,List.length_drop] using this
    ·rw [q4]
     show w.heap.size≤(((w.alloc (.cells row (ρ.t 3))).drew).setCells w.heap.size a xv).heap.size
     rw [r4]; simp [World.drew]
    ·have hkb':k≠w.heap.size:=by omega
     rw [q5 k hkb']
     show (((w.alloc (.cells row (ρ.t 3))).drew).setCells w.heap.size a xv).heap[k]?=_
     rw [r5 k hkb']
     exact Below.heap_alloc w _ k hk
   ·have e:a=n:=by omega
    subst e
    refine (Any2.slices_Insert_int_end_grow L (some ⟨b,0,none⟩) a c vb 0 m vc xs0 xv w hm hbn (by omega) (by omega) l1 l2 (fun h=>by cases h) (fun q hq j v hj=>by injection hq with hq; subst hq; rw [Addr.add_lit]; exact C j v hj) V c2).mono fun e w' ⟨he,hw⟩=>?_
    subst hw
    refine ⟨_,ρ.t 3,he,⟨by simp only [List.length_append,List.length_take,List.length_drop]; omega,.inr ⟨w.heap.size,_,_,rfl,Nat.zero_le _,alloc_heap w.drew _,hge,hgl,?_,?_⟩⟩,rfl,rfl,rfl,by rw [World.size_alloc]; exact Nat.le_succ _,fun k hk _=>?_,.inr ⟨_,rfl,Nat.le_refl _⟩⟩
    ·simp only [Array.size_append,List.size_toArray,size_zeroCells,List.length_append,l1,l2,Value.cells]
     simp only [List.size_toArray,List.length_singleton,Nat.mul_one]
     omega
    ·simp only [Array.toList_append,Nat.mul_one]
     rw [show xs0.take a=xs0 by rw [← l1,List.take_length],show xs0.drop a=[] by rw [← l1,List.drop_length],List.append_nil]
     exact List.take_left' (by simp [l1,l2])
    ·exact Below.heap_alloc w.drew _ k hk
end
end Go.Lg

namespace Go.Lg
open Go.RowKit Go.Proofs Go.Shelf
variable [GL]
set_option linter.unusedVariables false
set_option linter.unusedSectionVars false

/-- A row that is handed over,a place,and what goes in there. -/
def insP:List DV→Option (DV×List DV)
 | [.gv 1 es,.i a,.gv 1 vs]=>if 0≤a∧a≤es.length∧es.length+vs.length≤bound∧0 < vs.length then some (.fr 1 (es.take a.toNat++vs++es.drop a.toNat),[]) else none
 | _=>none
theorem ins_k (es vs:List DV) (a:Int):insP [.gv 1 es,.i a,.gv 1 vs]=if 0≤a∧a≤es.length∧es.length+vs.length≤bound∧0 < vs.length then some (.fr 1 (es.take a.toNat++vs++es.drop a.toNat),[]) else none:=rfl
theorem three {α:Type} [Inhabited α] (vs:Array α) (u:α) (h:vs.size=3):vs=#[vs.getD 0 u,vs.getD 1 u,vs.getD 2 u]:=by
 obtain ⟨l⟩:=vs
 match l,h with
 | [a,b,c],_=>rfl
theorem ins_sound {P:Program} {ρ:Ren} (L:Lays2.n21 P ρ) (hb:hasBody P (ρ.f 21)=true):∀ args r,insP args=some r→hasBody P (ρ.f 21)=true∧CallSpec P (ρ.f 21) args r:=by
 intro args r h
 refine ⟨hb,fun w ok0 refs O vs hE=>?_⟩
 unfold insP at h
 split at h
 rotate_left
 ·cases h
 rename_i es a ws
 split at h
 rotate_left
 ·cases h
 rename_i hc
 obtain ⟨ha0,ha1,hbd,hw0⟩:=hc
 injection h with h
 subst h
 have hbd':es.length+ws.length≤1073741824:=hbd
 have e:enter 0 [.gv 1 es,.i a,.gv 1 ws] ⟨[],[]⟩=⟨[(0,.own 14 es.length 0 es.length),(1,.i a),(2,.own 1038 ws.length 0 ws.length)],[(14,es),(1038,ws)]⟩:=rfl
 have hm:=hE.mem
 have hA:=hE.args
 rw [e] at hm hA
 have a0:=hA 0
 have a1:=hA 1
 have a2:=hA 2
 have e3:=three vs undef hE.size
 generalize vs.getD 0 undef=v0 at *
 generalize vs.getD 1 undef=v1 at *
 generalize vs.getD 2 undef=v2 at *
 subst e3
 have a0:VR w _ _ O (.own 14 es.length 0 es.length) v0:=a0
 have a1:VR w _ _ O (.i a) v1:=a1
 have a2:VR w _ _ O (.own 1038 ws.length 0 ws.length) v2:=a2
 have hv1:=a1.int (c:=⟨w,ok0,refs⟩)
 subst hv1
 obtain ⟨p,hO,hp,_,_,hvw,hor⟩:=a0.own_cur (c:=⟨w,ok0,refs⟩) hm (show lookO [(14,es),(1038,ws)] 14=some es from rfl) rfl
 obtain ⟨q,hO2,hq,_,_,hvw2,hor2⟩:=a2.own_cur (c:=⟨w,ok0,refs⟩) hm (show lookO [(14,es),(1038,ws)] 1038=some ws from rfl) rfl
 obtain ⟨_,_,_,_,_,_,hfull,_⟩:=hvw
 obtain ⟨_,_,_,_,_,_,hfull2,_⟩:=hvw2
 have e0:=hfull rfl hp.symm
 have e2:=hfull2 rfl hq.symm
 subst e0; subst e2
 have s1:p.sz=1:=hm.sz 14 p hO
 have s2:q.sz=1:=hm.sz 1038 q hO2
 obtain ⟨xs0,hrow,hcs⟩:=hor.row
 obtain ⟨xv,hrow2,hcs2⟩:=hor2.row
 rw [s1,hp] at hrow
 rw [s2,hq] at hrow2
 obtain ⟨n,rfl⟩:=Int.eq_ofNat_of_zero_le ha0
 rw [Int.toNat_natCast]
 have hn:n≤es.length:=by omega
 refine (ins_run L hrow hrow2 hw0 hn hbd' (fun g h1 h2=>?_) hcs.oneCell hcs2.oneCell).mono fun en w' ⟨v',ty',he,hrow',hos,htp,hout,hsz,hheap,hblk⟩=>⟨v',he,?_⟩
 ·have:=hm.inj 14 1038 p q g hO hO2 h1 h2
  omega
 have hwid:∀ x∈es.take n++ws++es.drop n,x.cells.length=1:=fun x hx=>by
  rcases List.mem_append.1 hx with hx | hx
  ·rcases List.mem_append.1 hx with hx | hx
   ·rw [hor.wid x (List.mem_of_mem_take hx),s1]
   ·rw [hor2.wid x hx,s2]
  ·rw [hor.wid x (List.mem_of_mem_drop hx),s1]
 have hlen:(es.take n++ws++es.drop n).length=es.length+ws.length:=by simp only [List.length_append,List.length_take,List.length_drop]; omega
 obtain ⟨h1,_⟩:=hm.turn (k:=14) (p:=p) (p':=⟨v',es.length+ws.length,ty',1⟩) (es':=es.take n++ws++es.drop n) (w':=w') hO hos htp hout hsz
  (fun b hb' hne=>hheap b hb' hne) hblk (.inr (fun r _ h7 e=>by rw [e] at h7; omega)) (.inr (by show p.len < es.length+ws.length; omega)) s1.symm (fun ok hok hkeep=>by
   refine ⟨hlen.symm,by show 0 < 1; omega,hwid,_,hrow',?_⟩
   have f1:=flat_take hor.wid (k:=n)
   have f2:=flat_drop hor.wid (k:=n)
   rw [s1,Nat.mul_one] at f1 f2
   rw [flat_append,flat_append,f1,f2]
   exact hkeep _ _ (((hcs.take _).append hcs2).append (hcs.drop _)))
 refine ⟨_,_,dropO (putO [(14,es),(1038,ws)] 14 (es.take n++ws++es.drop n)) 14,[.own 14 (es.length+ws.length) 0 (es.length+ws.length)],[v'],[.fr 1 (es.take n++ws++es.drop n)],h1,rfl,fun j d u hd hu=>?_,rfl,?_,rfl,rfl⟩
 ·match j,hd,hu with
  | 0,hd,hu =>
   simp only [List.getElem?_cons_zero,Option.some.injEq] at hd hu
   subst hd; subst hu
   exact .own 14 _ 0 _ _ _ (upd_same _ _ _) rfl (Nat.zero_le _) (Nat.le_refl _) (view_full (p:=⟨v',es.length+ws.length,ty',1⟩) hrow' rfl)
  | j+1,hd,hu=>simp at hd
 ·simp only [giveBackL,giveBack,lookO_put,if_true]
  rw [if_pos ⟨by omega,by omega,hlen,trivial,trivial⟩]
  rfl
end Go.Lg

namespace Go.Lg
open Go.RowKit Go.Proofs Go.Shelf
variable [GL]
set_option linter.unusedVariables false
set_option linter.unusedSectionVars false

/-- Room for so many: a new slice without elements. -/
def growP (sz:Nat):List DV→Option (DV×List DV)
 | [.nil,.i n]=>if 0 < n∧n≤bound then some (.fr sz [],[]) else none
 | _=>none
theorem grow_k (sz:Nat) (n:Int):growP sz [.nil,.i n]=if 0 < n∧n≤bound then some (.fr sz [],[]) else none:=rfl
theorem two {α:Type} [Inhabited α] (vs:Array α) (u:α) (h:vs.size=2):vs=#[vs.getD 0 u,vs.getD 1 u]:=by
 obtain ⟨l⟩:=vs
 match l,h with
 | [a,b],_=>rfl
theorem grow_sound {P:Program} {ρ:Ren} (L:Lays8.n4 P ρ) (hb:hasBody P (ρ.f 4)=true) {z:Value} {sz by_:Nat} (hi:(P.info? (ρ.t 25)).map (fun i=>(i.zero,i.size,i.bytes))=some (some z,sz,by_)) (hzc:z.cells.size=sz) (hpos:0 < sz) (h64:sz < 64) (hby:by_≤65536) :
  ∀ args r,growP sz args=some r→hasBody P (ρ.f 4)=true∧CallSpec P (ρ.f 4) args r:=by
 intro args r h
 obtain ⟨i0,hi0,hi⟩:=Option.map_eq_some_iff.1 hi
 simp only [Prod.mk.injEq] at hi
 obtain ⟨hz0,hs,rfl⟩:=hi
 refine ⟨hb,fun w ok0 refs O vs hE=>?_⟩
 unfold growP at h
 split at h
 rotate_left
 ·cases h
 rename_i n
 split at h
 rotate_left
 ·cases h
 rename_i hc
 obtain ⟨h0,h1⟩:=hc
 injection h with h
 subst h
 have h1':n≤1073741824:=h1
 have e:enter 0 [.nil,.i n] ⟨[],[]⟩=⟨[(0,.nil),(1,.i n)],[]⟩:=rfl
 have hm:=hE.mem
 have hA:=hE.args
 rw [e] at hm hA
 have a0:=hA 0
 have a1:=hA 1
 have e2:=two vs undef hE.size
 generalize vs.getD 0 undef=v0 at *
 generalize vs.getD 1 undef=v1 at *
 subst e2
 have a0:VR w w.heap.size (okb ok0 w.heap.size O) O .nil v0:=a0
 have a1:VR w w.heap.size (okb ok0 w.heap.size O) O (.i n) v1:=a1
 have hv1:=a1.int (c:=⟨w,ok0,refs⟩)
 have hv0:=(VR.slice_ (c:=⟨w,ok0,refs⟩) a0).2.2 rfl
 subst hv0; subst hv1
 obtain ⟨m,rfl⟩:=Int.eq_ofNat_of_zero_le (Int.le_of_lt h0)
 have hm1:m≤1073741824:=by omega
 have hm0:0 < m:=by omega
 have hmb:(0+m) * i0.bytes≤140737488355328:=by
  have:(0+m) * i0.bytes≤1073741824 * 65536:=Nat.mul_le_mul (by omega) hby
  omega
 refine (Any8.slices_Grow_grow L i0 z hi0 hz0 (by omega) none 0 0 m [] w (Nat.le_refl _) (by omega) hmb (by omega) (by simp) (fun _=>rfl) (fun a h=>by cases h)).mono fun en w' ⟨he,hw⟩=>⟨_,he,?_⟩
 subst hw
 have ht0:Tr ok0 w.heap.size (fun _=>False) w O w.drew O:=⟨Nat.le_refl _,fun _ _ _=>rfl,fun _ h _=>h,fun _ _ _ h=>.inl h,fun _ p _ h=>⟨p,h,.inl rfl⟩⟩
 have hm':MR ⟨w,ok0,refs⟩ O [] w.drew:=⟨hm.os,hm.tape,hm.output,hm.size,hm.frame,hm.dom,fun k p es h1 h2=>(hm.obj k p es h1 h2).tr ht0 (fun _ _=>rfl),hm.inj,hm.base,hm.sz,hm.refs,hm.glob⟩
 have hge:=grownCap_ge w (0+m) 0 (ρ.t 25)
 have hle:=grownCap_le_maxLen w (0+m) 0 (ρ.t 25) (by unfold maxLen; omega)
 have hsz:szId (8 * sz)=sz:=by unfold szId; omega
 obtain ⟨n1,_⟩:=hm'.new (8 * sz) (fun r _ h7 e=>by omega) (fun h=>by omega) [] ((#[]:Array Value)++Builtin.zeroCells z.cells (0+m - 0)++Builtin.zeroCells z.cells (grownCap w (0+m) 0 (ρ.t 25) - (0+m))) 0 (grownCap w (0+m) 0 (ρ.t 25)) sz (ρ.t 25) []
  hsz.symm rfl (Nat.zero_le _) hle hpos (fun e he=>by cases he) (by
   simp only [Array.size_append,size_zeroCells,hzc]
   simp only [List.size_toArray,List.length_nil,Nat.zero_add,Nat.sub_zero]
   rw [← Nat.add_mul]
   congr 1
   have:m≤grownCap w m 0 (ρ.t 25):=by simpa using hge
   omega) (by simp) (by simp) ⟨rfl,fun j c u h=>by simp [flat] at h⟩
 refine ⟨_,_,dropO (putO [] (8 * sz) []) (8 * sz),[.own (8 * sz) 0 0 0],[_],[.fr sz []],n1,rfl,fun j d u hd hu=>?_,rfl,?_,rfl,rfl⟩
 ·match j,hd,hu with
  | 0,hd,hu =>
   simp only [List.getElem?_cons_zero,Option.some.injEq] at hd hu
   subst hd; subst hu
   exact .own _ _ 0 _ _ _ (upd_same _ _ _) rfl (Nat.zero_le _) (Nat.le_refl _) ⟨_,_,rfl,Nat.zero_le _,hle,fun h=>by omega,fun _ _=>rfl,fun _=>⟨_,rfl⟩⟩
  | j+1,hd,hu=>simp at hd
 ·simp only [giveBackL,giveBack,lookO_put,if_true]
  rw [if_pos ⟨by omega,by omega,rfl,trivial,trivial⟩,hsz]
end Go.Lg

namespace Go.Lg
variable [GL]
set_option linter.unusedVariables false

/-- A row that is handed over,a place,and what goes in there. -/
def insPS (sz:Nat):List DV→Option (DV×List DV)
 | [.gv k es,.i a,.gv j vs]=>if k=sz∧j=sz∧0≤a∧a≤es.length∧es.length+vs.length≤bound∧0 < vs.length then some (.fr sz (es.take a.toNat++vs++es.drop a.toNat),[]) else none
 | _=>none
theorem insS_k (sz k j:Nat) (es vs:List DV) (a:Int):insPS sz [.gv k es,.i a,.gv j vs]=if k=sz∧j=sz∧0≤a∧a≤es.length∧es.length+vs.length≤bound∧0 < vs.length then some (.fr sz (es.take a.toNat++vs++es.drop a.toNat),[]) else none:=rfl
end Go.Lg

namespace Go.Lg
open Go.RowKit Go.Proofs Go.Shelf Go.Lib
variable [GL]
set_option linter.unusedVariables false
set_option linter.unusedSectionVars false

/-- What the walk asks of a program: the text at its numbers,and an element of so many cells. -/
structure InsAt (P:Program) (ρ:Ren) (z:Value) (sz by_:Nat):Prop where
 mixed:P.follows .mixedOrders=true
 body:Bears P (ρ.f 22) (Body2.n22 ρ)
 apart:∀ args w,(callFunc (ρ.f 29) args).run P w=((Extern.SlicesOverlaps.overlaps #[(ρ.t 24),(ρ.t 24)] #[(ρ.t 4)] args).run P w).andThen fun v w'=>.ok (.value v) w'
 t0:P.underlying (ρ.t 0)=some (TypeDesc.tuple #[])
 a0:∀ w,(isAgg (ρ.t 0)).run P w=.ok false w
 z0:∀ w,(Go.sizeOf (ρ.t 0)).run P w=.ok 1 w
 v0:∀ w,(zeroValue (ρ.t 0)).run P w=.ok (Value.tuple #[]) w
 t3:P.underlying (ρ.t 3)=some (TypeDesc.int IntKind.i64)
 a3:∀ w,(isAgg (ρ.t 3)).run P w=.ok false w
 z3:∀ w,(Go.sizeOf (ρ.t 3)).run P w=.ok 1 w
 v3:∀ w,(zeroValue (ρ.t 3)).run P w=.ok (Value.int IntKind.i64 0) w
 t4:P.underlying (ρ.t 4)=some (TypeDesc.bool)
 a4:∀ w,(isAgg (ρ.t 4)).run P w=.ok false w
 z4:∀ w,(Go.sizeOf (ρ.t 4)).run P w=.ok 1 w
 v4:∀ w,(zeroValue (ρ.t 4)).run P w=.ok (Value.bool false) w
 t24:P.underlying (ρ.t 24)=some (TypeDesc.slice (ρ.t 9))
 a24:∀ w,(isAgg (ρ.t 24)).run P w=.ok false w
 z24:∀ w,(Go.sizeOf (ρ.t 24)).run P w=.ok 1 w
 v24:∀ w,(zeroValue (ρ.t 24)).run P w=.ok (Value.slice none 0 0) w
 i9:(P.info? (ρ.t 9)).map (fun i=>(i.zero,i.size,i.bytes))=some (some z,sz,by_)
 zc:z.cells.size=sz
 pos:0 < sz
 small:by_≤65536

section
variable {P:Program} {ρ:Ren}
/-- copy where the elements have several cells: all is read before anything is written. -/
theorem run_copy_wide (w:World) (dT sT ty elem:TypeId) (b o dLen dCap:Nat) (a:Addr) (sLen sCap:Nat) (cs:List Value) (i:TypeInfo)
  (hu:P.underlying dT=some (.slice elem)) (hi:P.info? elem=some i) (hn:cs.length=Nat.min sLen dLen * i.size)
  (hsrc:∀ j v,cs[j]?=some v→w.cell? (a.add j)=some v) (hc:∀ j,j < cs.length→(w.cell? ⟨b,o+j,none⟩).isSome=true) (hf:∀ j,j < cs.length→w.frozen? ⟨b,o+j,none⟩=false) (h1:∀ v∈cs,v.oneCell'=true) :
  (Builtin.copy_ #[dT,sT] ty #[.slice (some ⟨b,o,none⟩) dLen dCap,.slice (some a) sLen sCap]).run P w=.ok (goInt (Nat.min sLen dLen)) (w.setCells b o cs):=by
 have hl:=Go.run_loadCells_list (P:=P) w a cs hsrc
 have hst:=run_storeCells_cells (P:=P) b o cs 0 w (by simpa using hc) (by simpa using hf) h1
 rw [hn] at hl
 simp [Builtin.copy_,run_underlying hu,Builtin.lenOf,Builtin.firstCells,sizeOf,typeInfo,hi,hl,hst]
/-- What a road of it leaves behind. -/
def InsPostW (sz:Nat) (w:World) (hv:Value) (n m a:Nat) (xs0 xv:List Value) (e:Ending) (w':World):Prop :=
 ∃ v' e2,e=.returned v'∧w'.ownsRow 0 e2 sz v' (n+m) (xs0.take (a * sz)++xv++xs0.drop (a * sz))∧w'.os=w.os∧w'.tape=w.tape∧w'.output=w.output∧w.heap.size≤w'.heap.size ∧
  (∀ b,b < w.heap.size→hv.ownBlock≠some b→w'.heap[b]?=w.heap[b]?)∧(v'.ownBlock=hv.ownBlock∨∃ g,v'.ownBlock=some g∧w.heap.size≤g)
set_option maxHeartbeats 4000000 in
set_option maxRecDepth 100000 in
/-- At the end: append. -/
theorem ins_end {z:Value} {sz by_:Nat} (L:InsAt P ρ z sz by_) {w:World} {hv:Value} {n m vb vc:Nat} {ty:TypeId} {xs0 xv:List Value} (h1:w.ownsRow 0 ty sz hv n xs0) (hm:0 < m) (hb:n+m≤1073741824)
  (l2:xv.length=m * sz) (V:∀ j v,xv[j]?=some v→w.cell? ((⟨vb,0,none⟩:Addr).add j)=some v) (c2:∀ v∈xv,v.oneCell'=true) :
  Calls P (ρ.f 22) #[hv,.int .i64 n,.slice (some ⟨vb,0,none⟩) m vc] w (InsPostW sz w hv n m n xs0 xv):=by
 obtain ⟨i0,hi0,hi⟩:=Option.map_eq_some_iff.1 L.i9
 simp only [Prod.mk.injEq] at hi
 obtain ⟨hz0,hs,hbt⟩:=hi
 have hby:(n+m) * by_≤140737488355328:=by
  have:(n+m) * by_≤1073741824 * 65536:=Nat.mul_le_mul hb L.small
  omega
 have t0:=L.t0; have a0:=L.a0; have z0:=L.z0; have v0:=L.v0; have t3:=L.t3; have a3:=L.a3; have z3:=L.z3; have v3:=L.v3; have t4:=L.t4; have a4:=L.a4; have z4:=L.z4; have v4:=L.v4; have t24:=L.t24; have a24:=L.a24; have z24:=L.z24; have v24:=L.v24
 have u0:=run_underlying L.t0; have u3:=run_underlying L.t3; have u4:=run_underlying L.t4; have u24:=run_underlying L.t24
 have z9:∀ w,(Go.sizeOf (ρ.t 9)).run P w=.ok sz w:=fun w=>by simp [Go.sizeOf,typeInfo,hi0,hs]
 have mixed:=L.mixed
 obtain ⟨_,_,FG⟩:=L.body
 have hz1:¬ ((m:Int)=0):=by omega
 have hx:xs0.take (n * sz)=xs0∧xs0.drop (n * sz)=[]:=by
  have:=h1.1
  exact ⟨List.take_of_length_le (by omega),List.drop_of_length_le (by omega)⟩
 obtain ⟨v',w',e2,hr,hrow,hg,hblk⟩:=run_append_ty (P:=P) (w:=w) (ρ.t 24) (ρ.t 24) (ρ.t 9) ty i0 z sz by_ L.t24 hi0 hz0 hs hbt L.zc L.pos hv n xs0 h1 ⟨vb,0,none⟩ m vc xv l2 V c2 hm (by unfold maxLen; omega) hby
 have hp:InsPostW sz w hv n m n xs0 xv (.returned v') w':=by
  refine ⟨v',e2,rfl,?_,hg.os,hg.tape,hg.output,hg.size,fun b hb h=>hg.block b hb (fun e=>h e.symm),?_⟩
  ·rw [hx.1,hx.2,List.append_nil]; exact hrow
  ·rcases hblk with h | h
   ·exact .inl h.1
   ·exact .inr ⟨_,h,Nat.le_refl _⟩
 generalize hpost:InsPostW sz w hv n m n xs0 xv=Post at *
 rcases h1.2 with ⟨rfl,rfl⟩ | ⟨b,c,cur,rfl,_,hbb,hbn,hbc,hbs,hbt'⟩
 ·go_enter FG,Body2.n22_ntmps ρ
  go_wp2_with (at_builtin; refine Lib.wpList_append_run _ rfl _ _ _ _ rfl _ _ rfl rfl _ _ hr ?_)
  exact hp
 ·go_enter FG,Body2.n22_ntmps ρ
  go_wp2_with (at_builtin; refine Lib.wpList_append_run _ rfl _ _ _ _ rfl _ _ rfl rfl _ _ hr ?_)
  all_goals exact hp
set_option maxHeartbeats 4000000 in
set_option maxRecDepth 100000 in
/-- In place: what stands from there on goes on,and what goes in is laid there. -/
theorem ins_shift {z:Value} {sz by_:Nat} (L:InsAt P ρ z sz by_) {w:World} {n m a b c vb vc:Nat} {ty ty2:TypeId} {cur cur2:Array Value} {xs0 xv:List Value} (hb:w.heap[b]?=some (.cells cur ty (0,0))) (hs:cur.size=c * sz) (hcm:c≤maxLen) (hvb:w.heap[vb]?=some (.cells cur2 ty2 (0,0)))
  (l1:xs0.length=n * sz) (l2:xv.length=m * sz) (C:∀ (j:Nat) (v:Value),xs0[j]?=some v→w.cell? ⟨b,j,none⟩=some v) (V:∀ (j:Nat) (v:Value),xv[j]?=some v→w.cell? ⟨vb,j,none⟩=some v) (c1:∀ v∈xs0,v.oneCell'=true) (c2:∀ v∈xv,v.oneCell'=true)
  (hm:0 < m) (ha:a < n) (hroom:n+m≤c) (hne:vb≠b) :
  Calls P (ρ.f 22) #[.slice (some ⟨b,0,none⟩) n c,.int .i64 a,.slice (some ⟨vb,0,none⟩) m vc] w fun e w' =>
   e=.returned (.slice (some ⟨b,0,none⟩) (n+m) c)∧w'=(w.drew.setCells b ((a+m) * sz) (xs0.drop (a * sz))).setCells b (a * sz) xv:=by
 obtain ⟨i0,hi0,hi⟩:=Option.map_eq_some_iff.1 L.i9
 simp only [Prod.mk.injEq] at hi
 obtain ⟨hz0,hsz,hbt⟩:=hi
 have pos:=L.pos
 have t0:=L.t0; have a0:=L.a0; have z0:=L.z0; have v0:=L.v0; have t3:=L.t3; have a3:=L.a3; have z3:=L.z3; have v3:=L.v3; have t4:=L.t4; have a4:=L.a4; have z4:=L.z4; have v4:=L.v4; have t24:=L.t24; have a24:=L.a24; have z24:=L.z24; have v24:=L.v24
 have u0:=run_underlying L.t0; have u3:=run_underlying L.t3; have u4:=run_underlying L.t4; have u24:=run_underlying L.t24
 have z9:∀ w,(Go.sizeOf (ρ.t 9)).run P w=.ok sz w:=fun w=>by simp [Go.sizeOf,typeInfo,hi0,hsz]
 have mixed:=L.mixed
 have hcs:0 < c * sz:=Nat.mul_pos (by omega) pos
 obtain ⟨_,_,FG⟩:=L.body
 have fz:∀ j,w.frozen? ⟨b,j,none⟩=false:=fun j=>frozen_of hb
 have fz2:∀ j,w.frozen? ⟨vb,j,none⟩=false:=fun j=>frozen_of hvb
 have hov:∀ lb cb,(callFunc (ρ.f 29) #[.slice (some ⟨vb,0,none⟩) m vc,.slice (some ⟨b,(a+m) * sz,none⟩) lb cb]).run P w=.ok (.value (.bool false)) w:=fun lb cb=>by
  rw [L.apart,
   Lib.run_overlaps_apart w (ρ.t 24) (ρ.t 4) (ρ.t 9) L.t24 sz z9 ⟨vb,0,none⟩ ⟨b,(a+m) * sz,none⟩ m vc lb cb hne ty2 ty cur2.size cur.size (by simp [World.shape?,hvb]) (by simp [World.shape?,hb]) (by omega) (fz2 _) (fz2 _)]
  rfl
 have sp:∀ j,j < c * sz→(w.cell? ⟨b,j,none⟩).isSome=true:=fun j hj=>by
  simp only [World.cell?,hb]
  simp; omega
 have hdl:(xs0.drop (a * sz)).length=(n - a) * sz:=by rw [List.length_drop,l1,← Nat.mul_sub_right_distrib]
 have le1:(a+m) * sz+(n - a) * sz≤c * sz:=by rw [← Nat.add_mul]; exact Nat.mul_le_mul_right _ (by omega)
 have le2:a * sz+m * sz≤c * sz:=by rw [← Nat.add_mul]; exact Nat.mul_le_mul_right _ (by omega)
 have hw1:IntKind.i64.wrap ((a:Int)+(m:Int))=(a:Int)+(m:Int):=by rw [IntKind.wrap_i64]; unfold maxLen at hcm; omega
 have hcp1:∀ ty dc sc,(Builtin.copy_ #[(ρ.t 24),(ρ.t 24)] ty #[.slice (some ⟨b,(a+m) * sz,none⟩) (n+m - (a+m)) dc,.slice (some ⟨b,a * sz,none⟩) (n+m - a) sc]).run P w.drew=.ok (goInt (n - a:Nat)) (w.drew.setCells b ((a+m) * sz) (xs0.drop (a * sz))):=fun ty dc sc=>by
  have hmin:Nat.min (n+m - a) (n+m - (a+m))=n - a:=by simp only [Nat.min_def]; split <;> omega
  have:=run_copy_wide (P:=P) w.drew (ρ.t 24) (ρ.t 24) ty (ρ.t 9) b ((a+m) * sz) (n+m - (a+m)) dc ⟨b,a * sz,none⟩ (n+m - a) sc (xs0.drop (a * sz)) i0 L.t24 hi0 (by rw [hdl,hmin,hsz])
   (fun j v hj=>by rw [Addr.add_lit]; exact C (a * sz+j) v (by rwa [List.getElem?_drop] at hj)) (fun j hj=>sp _ (by omega)) (fun j hj=>fz _) (fun v hv=>c1 v (List.mem_of_mem_drop hv))
  rw [hmin] at this
  exact this
 obtain ⟨W1,hW1⟩:∃ W1,W1=w.drew.setCells b ((a+m) * sz) (xs0.drop (a * sz)):=⟨_,rfl⟩
 have sp1:∀ k,k < c * sz→(W1.cell? ⟨b,k,none⟩).isSome=true:=fun k hk=>by
  rw [hW1]
  exact isSome_setCells b (xs0.drop (a * sz)) ((a+m) * sz) w.drew (fun j hj=>sp _ (by omega)) _ (sp k hk)
 have hcp2:∀ (W:World),(∀ x,W.cell? x=W1.cell? x)→(∀ x,W.frozen? x=W1.frozen? x)→∀ ty dc,(Builtin.copy_ #[(ρ.t 24),(ρ.t 24)] ty #[.slice (some ⟨b,a * sz,none⟩) (n+m - a) dc,.slice (some ⟨vb,0,none⟩) m vc]).run P W=.ok (goInt m) (W.setCells b (a * sz) xv):=fun W hWc hWf ty dc=>by
  have hmin:Nat.min m (n+m - a)=m:=by simp only [Nat.min_def]; split <;> omega
  have:=run_copy_wide (P:=P) W (ρ.t 24) (ρ.t 24) ty (ρ.t 9) b (a * sz) (n+m - a) dc ⟨vb,0,none⟩ m vc xv i0 L.t24 hi0 (by rw [l2,hmin,hsz])
   (fun j v hj=>by
    rw [Addr.add_lit,hWc,hW1,World.cell?_setCells_out b _ _ _ _ (fun h _=>absurd h hne),Nat.zero_add]
    exact V j v hj)
   (fun j hj=>by rw [hWc]; exact sp1 _ (by omega)) (fun j hj=>by rw [hWf,hW1,World.frozen?_setCells]; exact fz _) c2
  rw [hmin] at this
  exact this
 rw [← hW1] at hcp1 ⊢
 have hz1:¬ ((m:Int)=0):=by omega
 have hz2:¬ ((a:Int)=(n:Int)):=by omega
 have hb1:(0:Int)≤(a:Int)+(m:Int):=by omega
 have hin:a≤n:=by omega
 have htn:((a:Int)+(m:Int)).toNat=a+m:=by omega
 have hb2:¬ (c=a+m):=by omega
 have hb3:(a:Int)≤(n:Int)+(m:Int):=by omega
 have hb4:¬ (c=a):=by omega
 have hc63:c≤9223372036854775807:=hcm
 clear hdl le1 le2 sp1 sp C V
 go_enter FG,Body2.n22_ntmps ρ
 go_wp2_with (simp only [hov])
 go_region_law_o (refine step_copy_runI rfl _ _ (ρ.t 24) (ρ.t 24) rfl _ _ (by simp [Act.eval,Act.put]) (by simp [Act.eval,Act.put]) (hcp1 _ _ _) ?_)
 go_wp2_with (at_builtin; refine wpList_copy_runI _ rfl _ _ (ρ.t 24) (ρ.t 24) rfl _ _ rfl rfl (hcp2 _ (fun _=>rfl) (fun _=>rfl) _ _) ?_)
 go_ret
 exact ⟨rfl,by rw [hW1]⟩
set_option maxHeartbeats 4000000 in
set_option maxRecDepth 100000 in
/-- No room: a new row. -/
theorem ins_new {z:Value} {sz by_:Nat} (L:InsAt P ρ z sz by_) {w:World} {n m a b c vb vc:Nat} {ty ty2:TypeId} {cur cur2:Array Value} {xs0 xv:List Value} (hb:w.heap[b]?=some (.cells cur ty (0,0))) (hvb:w.heap[vb]?=some (.cells cur2 ty2 (0,0)))
  (l1:xs0.length=n * sz) (l2:xv.length=m * sz) (C:∀ (j:Nat) (v:Value),xs0[j]?=some v→w.cell? ⟨b,j,none⟩=some v) (V:∀ (j:Nat) (v:Value),xv[j]?=some v→w.cell? ⟨vb,j,none⟩=some v) (c1:∀ v∈xs0,v.oneCell'=true) (c2:∀ v∈xv,v.oneCell'=true)
  (hm:0 < m) (ha:a < n) (hnc:n≤c) (hroom:c < n+m) (hbig:n+m≤1073741824) :
  Calls P (ρ.f 22) #[.slice (some ⟨b,0,none⟩) n c,.int .i64 a,.slice (some ⟨vb,0,none⟩) m vc] w fun e w' =>
   e=.returned (.slice (some ⟨w.heap.size,0,none⟩) (n+m) (grownCap w (n+m) c (ρ.t 9))) ∧
   w'=(((w.alloc (.cells ((xs0.take (a * sz)).toArray++Builtin.zeroCells z.cells (n+m - a)++Builtin.zeroCells z.cells (grownCap w (n+m) c (ρ.t 9) - (n+m))) (ρ.t 9))).drew.setCells w.heap.size (a * sz) xv).drew).setCells w.heap.size ((a+m) * sz) (xs0.drop (a * sz)):=by
 obtain ⟨i0,hi0,hi⟩:=Option.map_eq_some_iff.1 L.i9
 simp only [Prod.mk.injEq] at hi
 obtain ⟨hz0,hsz,hbt⟩:=hi
 have pos:=L.pos
 have zc:=L.zc
 have small:=L.small
 have t0:=L.t0; have a0:=L.a0; have z0:=L.z0; have v0:=L.v0; have t3:=L.t3; have a3:=L.a3; have z3:=L.z3; have v3:=L.v3; have t4:=L.t4; have a4:=L.a4; have z4:=L.z4; have v4:=L.v4; have t24:=L.t24; have a24:=L.a24; have z24:=L.z24; have v24:=L.v24
 have u0:=run_underlying L.t0; have u3:=run_underlying L.t3; have u4:=run_underlying L.t4; have u24:=run_underlying L.t24
 have z9:∀ w,(Go.sizeOf (ρ.t 9)).run P w=.ok sz w:=fun w=>by simp [Go.sizeOf,typeInfo,hi0,hsz]
 have mixed:=L.mixed
 obtain ⟨_,_,FG⟩:=L.body
 have hbw:b < w.heap.size:=(Array.getElem?_eq_some_iff.1 hb).1
 have hvw:vb < w.heap.size:=(Array.getElem?_eq_some_iff.1 hvb).1
 have hmx:maxLen=9223372036854775807:=rfl
 have hby:(n+m) * i0.bytes≤140737488355328:=by
  have:(n+m) * i0.bytes≤1073741824 * 65536:=Nat.mul_le_mul hbig (by omega)
  omega
 have hby2:(n+m - a) * i0.bytes≤281474976710656:=by
  have:(n+m - a) * i0.bytes≤(n+m) * i0.bytes:=Nat.mul_le_mul_right _ (by omega)
  omega
 have lt:(xs0.take (a * sz)).length=a * sz:=by
  rw [List.length_take,l1]
  exact Nat.min_eq_left (Nat.mul_le_mul_right _ (by omega))
 have hold:(Builtin.firstCells i0.size a (.slice (some ⟨b,0,none⟩) a c)).run P w.drew=.ok (xs0.take (a * sz)).toArray w.drew :=
  run_firstCells_some w.drew i0.size a ⟨b,0,none⟩ a c (xs0.take (a * sz)) (by rw [lt,hsz]) (fun j v hj=>by
   rw [Addr.add_lit,Nat.zero_add]
   rw [List.getElem?_take] at hj
   split at hj
   ·exact C j v hj
   ·cases hj)
 have hkk:(n:Int)+(m:Int) - (a:Int)=((n+m - a:Nat):Int):=by omega
 have hik:a+(n+m - a)=n+m:=by omega
 have hrz:∀ ty,(Builtin.append_ #[(ρ.t 24),(ρ.t 3)] ty #[.slice (some ⟨b,0,none⟩) a c,.int .i64 ((n:Int)+(m:Int) - (a:Int))]).run P w =
   .ok (.slice (some ⟨w.heap.size,0,none⟩) (n+m) (grownCap w (n+m) c (ρ.t 9))) (w.drew.alloc (.cells ((xs0.take (a * sz)).toArray++Builtin.zeroCells z.cells (n+m - a)++Builtin.zeroCells z.cells (grownCap w (n+m) c (ρ.t 9) - (n+m))) (ρ.t 9))):=fun ty=>by
  have h:=Lib.run_append_grow_zeros w (ρ.t 24) (ρ.t 3) ty (ρ.t 9) i0 _ .i64 .i64 L.t24 L.t3 hi0 hz0 (some ⟨b,0,none⟩) a c (xs0.take (a * sz)) hold (n+m - a) (by omega) (by omega) (by omega) (by omega) hby2 (by rw [hik]; exact growslice_fits hroom hby)
  rw [hik] at h
  rw [hkk]
  exact h
 obtain ⟨G,hG⟩:∃ G,G=grownCap w (n+m) c (ρ.t 9):=⟨_,rfl⟩
 obtain ⟨ROW,hROW⟩:∃ ROW:Array Value,ROW=(xs0.take (a * sz)).toArray++Builtin.zeroCells z.cells (n+m - a)++Builtin.zeroCells z.cells (G - (n+m)):=⟨_,rfl⟩
 rw [← hG] at hrz ⊢
 rw [← hROW] at hrz ⊢
 have hRl:(n+m) * sz≤ROW.size:=by
  rw [hROW]
  simp only [Array.size_append,List.size_toArray,size_zeroCells,lt,zc]
  rw [← Nat.add_mul,hik]
  omega
 obtain ⟨W1,hW1⟩:∃ W1,W1=w.drew.alloc (.cells ROW (ρ.t 9)):=⟨_,rfl⟩
 rw [← hW1] at hrz
 have le1:(a+m) * sz+(n - a) * sz=(n+m) * sz:=by rw [← Nat.add_mul]; congr 1; omega
 have le2:a * sz+m * sz≤(n+m) * sz:=by rw [← Nat.add_mul]; exact Nat.mul_le_mul_right _ (by omega)
 have hdl:(xs0.drop (a * sz)).length=(n - a) * sz:=by rw [List.length_drop,l1,← Nat.mul_sub_right_distrib]
 have hN:∀ j,j < (n+m) * sz→(W1.cell? ⟨w.heap.size,j,none⟩).isSome=true:=fun j hj=>by
  rw [hW1,World.cell?_alloc_at (w:=w.drew) ROW _ w.heap.size j rfl,Array.getElem?_eq_getElem (by omega)]; rfl
 have hNf:∀ j,W1.frozen? ⟨w.heap.size,j,none⟩=false:=fun j=>by rw [hW1]; exact World.frozen?_alloc_at (w:=w.drew) ROW _ w.heap.size j rfl
 have hOb:∀ j v,w.cell? ⟨b,j,none⟩=some v→W1.cell? ⟨b,j,none⟩=some v:=fun j v h=>by rw [hW1,World.cell?_alloc_past (w:=w.drew) _ b j hbw]; exact h
 have hOv:∀ j v,w.cell? ⟨vb,j,none⟩=some v→W1.cell? ⟨vb,j,none⟩=some v:=fun j v h=>by rw [hW1,World.cell?_alloc_past (w:=w.drew) _ vb j hvw]; exact h
 have hcpA:∀ (W:World),(∀ x,W.cell? x=W1.cell? x)→(∀ x,W.frozen? x=W1.frozen? x)→∀ ty dc,(Builtin.copy_ #[(ρ.t 24),(ρ.t 24)] ty #[.slice (some ⟨w.heap.size,a * sz,none⟩) (n+m - a) dc,.slice (some ⟨vb,0,none⟩) m vc]).run P W=.ok (goInt m) (W.setCells w.heap.size (a * sz) xv):=fun W hWc hWf ty dc=>by
  have hmin:Nat.min m (n+m - a)=m:=by simp only [Nat.min_def]; split <;> omega
  have:=run_copy_wide (P:=P) W (ρ.t 24) (ρ.t 24) ty (ρ.t 9) w.heap.size (a * sz) (n+m - a) dc ⟨vb,0,none⟩ m vc xv i0 L.t24 hi0 (by rw [l2,hmin,hsz])
   (fun j v hj=>by rw [Addr.add_lit,hWc,Nat.zero_add]; exact hOv _ v (V j v hj))
   (fun j hj=>by rw [hWc]; exact hN _ (by omega)) (fun j hj=>by rw [hWf]; exact hNf _) c2
  rw [hmin] at this
  exact this
 have hGn:n+m≤G:=by rw [hG]; exact grownCap_ge w _ _ _
 have hG63:G≤9223372036854775807:=by
  have:=grownCap_le_maxLen w (n+m) c (ρ.t 9) (by omega)
  omega
 have hbN:b≠w.heap.size:=by omega
 have hcpB:∀ (W:World),(∀ x,W.cell? x=(W1.setCells w.heap.size (a * sz) xv).cell? x)→(∀ x,W.frozen? x=(W1.setCells w.heap.size (a * sz) xv).frozen? x)→∀ ty dc sc,(Builtin.copy_ #[(ρ.t 24),(ρ.t 24)] ty #[.slice (some ⟨w.heap.size,(a+m) * sz,none⟩) (n+m - (a+m)) dc,.slice (some ⟨b,a * sz,none⟩) (n - a) sc]).run P W=.ok (goInt (n - a:Nat)) (W.setCells w.heap.size ((a+m) * sz) (xs0.drop (a * sz))):=fun W hWc hWf ty dc sc=>by
  have hmin:Nat.min (n - a) (n+m - (a+m))=n - a:=by simp only [Nat.min_def]; split <;> omega
  have:=run_copy_wide (P:=P) W (ρ.t 24) (ρ.t 24) ty (ρ.t 9) w.heap.size ((a+m) * sz) (n+m - (a+m)) dc ⟨b,a * sz,none⟩ (n - a) sc (xs0.drop (a * sz)) i0 L.t24 hi0 (by rw [hdl,hmin,hsz])
   (fun j v hj=>by
    rw [Addr.add_lit,hWc,World.cell?_setCells_out _ _ _ _ _ (fun h _=>absurd h hbN)]
    exact hOb _ v (C (a * sz+j) v (by rwa [List.getElem?_drop] at hj)))
   (fun j hj=>by rw [hWc]; exact isSome_setCells w.heap.size xv (a * sz) W1 (fun t ht=>hN _ (by omega)) _ (hN _ (by omega)))
   (fun j hj=>by rw [hWf,World.frozen?_setCells]; exact hNf _) (fun v hv=>c1 v (List.mem_of_mem_drop hv))
  rw [hmin] at this
  exact this
 subst hW1
 have hE1:∀ x,((w.alloc (.cells ROW (ρ.t 9))).drew).cell? x=(w.drew.alloc (.cells ROW (ρ.t 9))).cell? x:=fun x=>rfl
 have hE2:∀ x,((w.alloc (.cells ROW (ρ.t 9))).drew).frozen? x=(w.drew.alloc (.cells ROW (ρ.t 9))).frozen? x:=fun x=>rfl
 have hF1:∀ x,(((w.alloc (.cells ROW (ρ.t 9))).drew.setCells w.heap.size (a * sz) xv).drew).cell? x=((w.drew.alloc (.cells ROW (ρ.t 9))).setCells w.heap.size (a * sz) xv).cell? x:=fun x=>rfl
 have hF2:∀ x,(((w.alloc (.cells ROW (ρ.t 9))).drew.setCells w.heap.size (a * sz) xv).drew).frozen? x=((w.drew.alloc (.cells ROW (ρ.t 9))).setCells w.heap.size (a * sz) xv).frozen? x:=fun x=>rfl
 have hz1:¬ ((m:Int)=0):=by omega
 have hz2:¬ ((a:Int)=(n:Int)):=by omega
 have hz3:(c:Int) < (n:Int)+(m:Int):=by omega
 have hw1:IntKind.i64.wrap ((a:Int)+(m:Int))=(a:Int)+(m:Int):=by rw [IntKind.wrap_i64]; omega
 have hb1:(0:Int)≤(a:Int)+(m:Int):=by omega
 have hin:a≤n:=by omega
 have htn:((a:Int)+(m:Int)).toNat=a+m:=by omega
 have hb3:(a:Int)≤(n:Int):=by omega
 have hGi:¬ (G=a):=by omega
 have hGim:¬ (G=a+m):=by omega
 have hci:¬ (c=a):=by omega
 clear hkk hik hold hROW hG hRl le1 le2 hdl hN hNf hOb hOv C V lt hby hby2
 go_enter FG,Body2.n22_ntmps ρ
 go_wp2_with (first
  | (at_builtin; refine Lib.wpList_append_run _ rfl _ _ _ _ rfl _ _ rfl rfl _ _ (hrz _) ?_)
  | (at_builtin; refine wpList_copy_runI _ rfl _ _ (ρ.t 24) (ρ.t 24) rfl _ _ rfl rfl (hcpA _ hE1 hE2 _ _) ?_)
  | (at_builtin; refine wpList_copy_runI _ rfl _ _ (ρ.t 24) (ρ.t 24) rfl _ _ rfl rfl (hcpB _ (fun _=>rfl) (fun _=>rfl) _ _ _) ?_))
 go_region_law_o (refine step_copy_runI rfl _ _ (ρ.t 24) (ρ.t 24) rfl (.slice (some ⟨w.heap.size,(a+m) * sz,none⟩) (n+m - (a+m)) (G - (a+m))) (.slice (some ⟨b,a * sz,none⟩) (n - a) (c - a)) (by simp [Act.eval,Act.put]) (by simp [Act.eval,Act.put]) (hcpB _ hF1 hF2 (ρ.t 3) (G - (a+m)) (c - a)) ?_)
 go_wp2
 go_ret
 exact ⟨rfl,rfl⟩
theorem ins_wide {z:Value} {sz by_:Nat} (L:InsAt P ρ z sz by_) {w:World} {hv hv2:Value} {n m a:Nat} {ty ty2:TypeId} {xs0 xv:List Value} (h1:w.ownsRow 0 ty sz hv n xs0) (h2:w.ownsRow 0 ty2 sz hv2 m xv) (hm:0 < m) (ha:a≤n) (hb:n+m≤1073741824)
  (hne:∀ g,hv.ownBlock=some g→hv2.ownBlock≠some g) (c1:∀ v∈xs0,v.oneCell'=true) (c2:∀ v∈xv,v.oneCell'=true):Calls P (ρ.f 22) #[hv,.int .i64 a,hv2] w (InsPostW sz w hv n m a xs0 xv):=by
 have pos:=L.pos
 have zc:=L.zc
 obtain ⟨l2,h2'⟩:=h2
 rcases h2' with ⟨_,h2'⟩ | ⟨vb,vc,cur2,rfl,_,hvb,hvn,hvc,hvs,hvt⟩
 ·omega
 have hmx:maxLen=9223372036854775807:=rfl
 have V:∀ (j:Nat) (v:Value),xv[j]?=some v→w.cell? ⟨vb,j,none⟩=some v:=fun j v hj=>by
  rw [← hvt,List.getElem?_take] at hj
  split at hj
  ·simp only [World.cell?,hvb]; simpa using hj
  ·cases hj
 have hvlt:vb < w.heap.size:=(Array.getElem?_eq_some_iff.1 hvb).1
 by_cases hi:a < n
 rotate_left
 ·have e:a=n:=by omega
  subst e
  exact ins_end L h1 hm hb l2 (fun j v hj=>by rw [Addr.add_lit,Nat.zero_add]; exact V j v hj) c2
 ·obtain ⟨l1,h1⟩:=h1
  rcases h1 with ⟨rfl,hn0⟩ | ⟨b,c,cur,rfl,_,hbb,hbn,hbc,hbs,hbt⟩
  ·omega
  have C:∀ (j:Nat) (v:Value),xs0[j]?=some v→w.cell? ⟨b,j,none⟩=some v:=fun j v hj=>by
   rw [← hbt,List.getElem?_take] at hj
   split at hj
   ·simp only [World.cell?,hbb]; simpa using hj
   ·cases hj
  have hblt:b < w.heap.size:=(Array.getElem?_eq_some_iff.1 hbb).1
  have hvne:vb≠b:=fun e=>hne b rfl (by rw [← e]; rfl)
  have hdr:(World.drew w).heap[b]?=some (.cells cur ty (0,0)):=hbb
  have A1:a * sz≤n * sz:=Nat.mul_le_mul_right _ ha
  have e1:(a+m) * sz=a * sz+m * sz:=Nat.add_mul _ _ _
  have e2:(n+m) * sz=n * sz+m * sz:=Nat.add_mul _ _ _
  have hll:(xs0.take (a * sz)++xv++xs0.drop (a * sz)).length=(n+m) * sz:=by
   simp only [List.length_append,List.length_take,List.length_drop]
   omega
  by_cases hroom:n+m≤c
  ·have R:(n+m) * sz≤c * sz:=Nat.mul_le_mul_right _ hroom
   refine (ins_shift L hbb hbs hbc hvb l1 l2 C V c1 c2 hm hi hroom hvne).mono fun e w' ⟨he,hw⟩=>?_
   have s1:=setCells_heap b (xs0.drop (a * sz)) ((a+m) * sz) w.drew cur ty (0,0) hdr (by simp; omega)
   have s2:=setCells_heap b xv (a * sz) _ _ ty (0,0) s1 (by simp; omega)
   obtain ⟨r1,r2,r3,r4,r5⟩:=setCells_rest b (xs0.drop (a * sz)) ((a+m) * sz) w.drew
   obtain ⟨q1,q2,q3,q4,q5⟩:=setCells_rest b xv (a * sz) (w.drew.setCells b ((a+m) * sz) (xs0.drop (a * sz)))
   rw [← hw] at s2 q1 q2 q3 q4 q5
   refine ⟨_,ty,he,⟨hll,.inr ⟨b,c,_,rfl,Nat.zero_le _,s2,hroom,hbc,?_,?_⟩⟩,q1.trans r1,q2.trans r2,q3.trans r3,by rw [q4,r4]; exact Nat.le_refl _,fun k hk hkb=>?_,.inl rfl⟩
   ·simp; omega
   ·simp only [List.toList_toArray]
    have e0:cur.toList.length=c * sz:=by simpa using hbs
    generalize cur.toList=l at *
    subst hbt
    rw [e2,e1]
    have:=over_shift (l:=l) (a:=a * sz) (n:=n * sz) (m:=m * sz) l2 A1 (by omega)
    simpa [l2,l1,List.length_drop,Nat.min_eq_left (show n * sz≤l.length by omega)] using this
   ·have hkb':k≠b:=fun e=>hkb (by rw [e]; rfl)
    rw [q5 k hkb',r5 k hkb']; rfl
  ·have hge:=grownCap_ge w (n+m) c (ρ.t 9)
   have hgl:=grownCap_le_maxLen w (n+m) c (ρ.t 9) (by omega)
   refine (ins_new L hbb hvb l1 l2 C V c1 c2 hm hi hbn (by omega) hb).mono fun e w' ⟨he,hw⟩=>?_
   generalize hrow:(xs0.take (a * sz)).toArray++Builtin.zeroCells z.cells (n+m - a)++Builtin.zeroCells z.cells (grownCap w (n+m) c (ρ.t 9) - (n+m))=row at hw
   have lt:(xs0.take (a * sz)).length=a * sz:=by rw [List.length_take,l1]; exact Nat.min_eq_left A1
   have hrs:row.size=grownCap w (n+m) c (ρ.t 9) * sz:=by
    rw [← hrow]
    simp only [Array.size_append,List.size_toArray,size_zeroCells,lt,zc]
    rw [← Nat.add_mul,← Nat.add_mul]
    congr 1
    omega
   have R:(n+m) * sz≤grownCap w (n+m) c (ρ.t 9) * sz:=Nat.mul_le_mul_right _ hge
   have hrt:row.toList.take (a * sz)=xs0.take (a * sz):=by
    rw [← hrow]
    simp only [Array.toList_append,List.append_assoc]
    exact List.take_left' lt
   have s0:((w.alloc (.cells row (ρ.t 9))).drew).heap[w.heap.size]?=some (.cells row (ρ.t 9) (0,0)):=alloc_heap w _
   have s1:=setCells_heap w.heap.size xv (a * sz) _ row (ρ.t 9) (0,0) s0 (by omega)
   have s2:=setCells_heap w.heap.size (xs0.drop (a * sz)) ((a+m) * sz) (World.drew _) _ (ρ.t 9) (0,0) s1 (by simp; omega)
   obtain ⟨r1,r2,r3,r4,r5⟩:=setCells_rest w.heap.size xv (a * sz) ((w.alloc (.cells row (ρ.t 9))).drew)
   obtain ⟨q1,q2,q3,q4,q5⟩:=setCells_rest w.heap.size (xs0.drop (a * sz)) ((a+m) * sz) (World.drew (((w.alloc (.cells row (ρ.t 9))).drew).setCells w.heap.size (a * sz) xv))
   rw [← hw] at s2 q1 q2 q3 q4 q5
   refine ⟨_,ρ.t 9,he,⟨hll,.inr ⟨w.heap.size,_,_,rfl,Nat.zero_le _,s2,hge,hgl,?_,?_⟩⟩,q1.trans r1,q2.trans r2,q3.trans r3,?_,fun k hk hkb=>?_,.inr ⟨_,rfl,Nat.le_refl _⟩⟩
   ·simp; omega
   ·simp only [List.toList_toArray]
    have e0:row.toList.length=grownCap w (n+m) c (ρ.t 9) * sz:=by simpa using hrs
    generalize row.toList=l at *
    rw [e2,e1]
    have:=over_grow (l:=l) (xs:=xs0) (xv:=xv) (a:=a * sz) (n:=n * sz) (m:=m * sz) l2 l1 A1 (by omega) hrt
    simpa [l2,l1,List.length_drop] using this
   ·rw [q4]
    show w.heap.size≤(((w.alloc (.cells row (ρ.t 9))).drew).setCells w.heap.size (a * sz) xv).heap.size
    rw [r4]; simp [World.drew]
   ·have hkb':k≠w.heap.size:=by omega
    rw [q5 k hkb']
    show (((w.alloc (.cells row (ρ.t 9))).drew).setCells w.heap.size (a * sz) xv).heap[k]?=_
    rw [r5 k hkb']
    exact Below.heap_alloc w _ k hk
end
theorem insS_sound {P:Program} {ρ:Ren} {z:Value} {sz by_:Nat} (L:InsAt P ρ z sz by_) (h64:sz < 64) (hb:hasBody P (ρ.f 22)=true):∀ args r,insPS sz args=some r→hasBody P (ρ.f 22)=true∧CallSpec P (ρ.f 22) args r:=by
 have pos:=L.pos
 intro args r h
 refine ⟨hb,fun w ok0 refs O vs hE=>?_⟩
 unfold insPS at h
 split at h
 rotate_left
 ·cases h
 rename_i k es a j ws
 split at h
 rotate_left
 ·cases h
 rename_i hc
 obtain ⟨hk,hj,ha0,ha1,hbd,hw0⟩:=hc
 have hk':=hk.symm
 have hj':=hj.symm
 subst hk'
 subst hj'
 injection h with h
 subst h
 have hbd':es.length+ws.length≤1073741824:=hbd
 have kn:mkId 0 sz 6≠mkId 2 sz 6:=by unfold mkId; omega
 have kl:mkId 0 sz 6≤mkId 2 sz 6:=by unfold mkId; omega
 have e:enter 0 [.gv sz es,.i a,.gv sz ws] ⟨[],[]⟩=⟨[(0,.own (mkId 0 sz 6) es.length 0 es.length),(1,.i a),(2,.own (mkId 2 sz 6) ws.length 0 ws.length)],[(mkId 0 sz 6,es),(mkId 2 sz 6,ws)]⟩:=by simp [enter,put,putO,kn,kn.symm,kl]
 have hm:=hE.mem
 have hA:=hE.args
 rw [e] at hm hA
 have a0:=hA 0
 have a1:=hA 1
 have a2:=hA 2
 have e3:=three vs undef hE.size
 generalize vs.getD 0 undef=v0 at *
 generalize vs.getD 1 undef=v1 at *
 generalize vs.getD 2 undef=v2 at *
 subst e3
 have a0:VR w _ _ O (.own (mkId 0 sz 6) es.length 0 es.length) v0:=a0
 have a1:VR w _ _ O (.i a) v1:=a1
 have a2:VR w _ _ O (.own (mkId 2 sz 6) ws.length 0 ws.length) v2:=a2
 have hv1:=a1.int (c:=⟨w,ok0,refs⟩)
 subst hv1
 obtain ⟨p,hO,hp,_,_,hvw,hor⟩:=a0.own_cur (c:=⟨w,ok0,refs⟩) hm (show lookO [(mkId 0 sz 6,es),(mkId 2 sz 6,ws)] (mkId 0 sz 6)=some es from by simp [lookO]) rfl
 obtain ⟨q,hO2,hq,_,_,hvw2,hor2⟩:=a2.own_cur (c:=⟨w,ok0,refs⟩) hm (show lookO [(mkId 0 sz 6,es),(mkId 2 sz 6,ws)] (mkId 2 sz 6)=some ws from by simp [lookO,kn]) rfl
 obtain ⟨_,_,_,_,_,_,hfull,_⟩:=hvw
 obtain ⟨_,_,_,_,_,_,hfull2,_⟩:=hvw2
 have e0:=hfull rfl hp.symm
 have e2:=hfull2 rfl hq.symm
 subst e0; subst e2
 have s1:p.sz=sz:=(hm.sz (mkId 0 sz 6) p hO).trans (by unfold szId mkId; omega)
 have s2:q.sz=sz:=(hm.sz (mkId 2 sz 6) q hO2).trans (by unfold szId mkId; omega)
 obtain ⟨xs0,hrow,hcs⟩:=hor.row
 obtain ⟨xv,hrow2,hcs2⟩:=hor2.row
 rw [s1,hp] at hrow
 rw [s2,hq] at hrow2
 obtain ⟨n,rfl⟩:=Int.eq_ofNat_of_zero_le ha0
 rw [Int.toNat_natCast]
 have hn:n≤es.length:=by omega
 refine (ins_wide L hrow hrow2 hw0 hn hbd' (fun g h1 h2=>?_) hcs.oneCell hcs2.oneCell).mono fun en w' ⟨v',ty',he,hrow',hos,htp,hout,hsz,hheap,hblk⟩=>⟨v',he,?_⟩
 ·have:=hm.inj (mkId 0 sz 6) (mkId 2 sz 6) p q g hO hO2 h1 h2
  unfold mkId at this
  omega
 have hwid:∀ x∈es.take n++ws++es.drop n,x.cells.length=sz:=fun x hx=>by
  rcases List.mem_append.1 hx with hx | hx
  ·rcases List.mem_append.1 hx with hx | hx
   ·rw [hor.wid x (List.mem_of_mem_take hx),s1]
   ·rw [hor2.wid x hx,s2]
  ·rw [hor.wid x (List.mem_of_mem_drop hx),s1]
 have hlen:(es.take n++ws++es.drop n).length=es.length+ws.length:=by simp only [List.length_append,List.length_take,List.length_drop]; omega
 obtain ⟨h1,_⟩:=hm.turn (k:=mkId 0 sz 6) (p:=p) (p':=⟨v',es.length+ws.length,ty',sz⟩) (es':=es.take n++ws++es.drop n) (w':=w') hO hos htp hout hsz
  (fun b hb' hne=>hheap b hb' hne) hblk (.inr (fun r _ h7 e=>by rw [e] at h7; unfold mkId at h7; omega)) (.inr (by show p.len < es.length+ws.length; omega)) s1.symm (fun ok hok hkeep=>by
   refine ⟨hlen.symm,pos,hwid,_,hrow',?_⟩
   have f1:=flat_take hor.wid (k:=n)
   have f2:=flat_drop hor.wid (k:=n)
   rw [s1] at f1 f2
   rw [flat_append,flat_append,f1,f2]
   exact hkeep _ _ (((hcs.take _).append hcs2).append (hcs.drop _)))
 refine ⟨_,_,dropO (putO [(mkId 0 sz 6,es),(mkId 2 sz 6,ws)] (mkId 0 sz 6) (es.take n++ws++es.drop n)) (mkId 0 sz 6),[.own (mkId 0 sz 6) (es.length+ws.length) 0 (es.length+ws.length)],[v'],[.fr sz (es.take n++ws++es.drop n)],h1,rfl,fun j d u hd hu=>?_,rfl,?_,rfl,rfl⟩
 ·match j,hd,hu with
  | 0,hd,hu =>
   simp only [List.getElem?_cons_zero,Option.some.injEq] at hd hu
   subst hd; subst hu
   exact .own (mkId 0 sz 6) _ 0 _ _ _ (upd_same _ _ _) rfl (Nat.zero_le _) (Nat.le_refl _) (view_full (p:=⟨v',es.length+ws.length,ty',sz⟩) hrow' rfl)
  | j+1,hd,hu=>simp at hd
 ·simp only [giveBackL,giveBack,lookO_put,if_true]
  rw [if_pos ⟨by unfold mkId; omega,by unfold mkId; omega,hlen,trivial,trivial⟩,show szId (mkId 0 sz 6)=sz by unfold szId mkId; omega]
end Go.Lg

namespace Go.Lg
variable [GL]
set_option linter.unusedSimpArgs false
set_option linter.unusedVariables false
open Go.RowKit Go.ChangeShapes Go.WideShapes Go.Deep

def eR (r:List Int):DV:=.sl 0 (r.map .i)
def rss (L:List (List Int)):DV:=.sl 0 (L.map eR)
section
variable {H:Type} {enc:TypeId×Value→H} {P:Program} {w:World} {base b0:Nat} {r:Reach} {spare:Nat→Bool} {held:Bool}
theorem row_of {t e:TypeId} {fuel:Nat} {cs:List Value} {x0:DataW H×List MemPlace} (ht:P.underlying t=some (.slice e)) (he:P.underlying e=some (.int .i64)) (hC:P.cellsOf e=1)
  (h:DataW.trod enc P w base spare held fuel t cs=some x0) :
  ∃ (v:Value) (xs:List Int),cs=[v]∧CR w w.heap.size (okb (fun _=>True) w.heap.size fun _=>none) (.sl 0 (xs.map .i)) v∧xs.length≤maxLen:=by
 rcases open_ints ht he hC h with ⟨hcs,_⟩ | ⟨x,l,c,zs,hcs,_,hl,hm,hz,_,hcell,hwz⟩
 ·exact ⟨_,[],hcs,.sl0 _ _ _ (Nat.zero_le _),Nat.zero_le _⟩
 ·refine ⟨_,zs.take l,hcs,?_,by simp; omega⟩
  by_cases h0:0 < l
  ·have hlz:l≤zs.length:=by rw [hz]; split <;> omega
   have hlt:x.block < w.heap.size:=by
    have h1:=hcell 0 (by omega)
    unfold World.cell? at h1
    rw [block_add] at h1
    by_cases hb:x.block < w.heap.size
    ·exact hb
    ·rw [Array.getElem?_eq_none (by omega)] at h1
     cases h1
   have hflat:∀ m:List Int,flat (m.map DV.i)=m.map .i:=by
    intro m
    induction m with
    | nil=>rfl
    | cons n m ih=>rw [List.map_cons,flat_cons,ih]; rfl
   refine .sl 0 _ x l c 1 ((zs.take l).map (.int .i64 ·)) (by simp; omega) h0 hl hm (fun e he=>?_) (ok_top _ _) hlt (fun _=>hlt) (fun h=>by omega) (fun h=>by cases h) (by rw [hflat]; simp) (fun j u hu=>?_) (fun j d u hc hu=>?_)
   ·obtain ⟨n,_,rfl⟩:=List.mem_map.1 he
    rfl
   ·rw [List.getElem?_map,Option.map_eq_some_iff] at hu
    obtain ⟨n,hn,rfl⟩:=hu
    rw [List.getElem?_take] at hn
    split at hn
    ·have hj:j < zs.length:=(List.getElem?_eq_some_iff.1 hn).1
     rw [hcell j hj,List.getD_eq_getElem?_getD,hn]
     rfl
    ·cases hn
   ·rw [hflat,List.getElem?_map,Option.map_eq_some_iff] at hc
    rw [List.getElem?_map,Option.map_eq_some_iff] at hu
    obtain ⟨n,h1,rfl⟩:=hc
    obtain ⟨n',h2,rfl⟩:=hu
    rw [h1] at h2
    injection h2 with h2
    subst h2
    exact .i _
  ·have:l=0:=by omega
   subst this
   exact .sl0 _ _ _ hm
theorem open_rss {t e f:TypeId} {v:Value} {d:DataW H} {p:List MemPlace} (ht:P.underlying t=some (.slice e)) (he:P.underlying e=some (.slice f)) (hf:P.underlying f=some (.int .i64)) (hC:P.cellsOf e=1) (hD:P.cellsOf f=1)
  (hval:Value.okWide P w r b0 t v) (h:DataW.Trod enc P w base spare held t v d p) :
  ∃ L:List (List Int),CR w w.heap.size (okb (fun _=>True) w.heap.size fun _=>none) (rss L) v∧L.length≤maxLen∧∀ r∈L,r.length≤maxLen:=by
 classical
 obtain ⟨A,len0,cap0,rfl⟩:=okWide_slice ht hval
 obtain ⟨fuel,h⟩:=h
 rcases open_slice ht h with ⟨h0,_⟩ | ⟨a,len,cap,m,n,D,Pl,hcs,hb,hl,hm,hmm,hx,hi⟩
 ·simp [Value.cells] at h0
  obtain ⟨rfl,rfl,rfl⟩:=h0
  exact ⟨[],.sl0 _ _ _ (Nat.zero_le _),Nat.zero_le _,fun n hn=>by cases hn⟩
 ·simp [Value.cells] at hcs
  obtain ⟨rfl,rfl,rfl⟩:=hcs
  have each:∀ i,i < len0→∃ (u:Value) (xs:List Int),w.cell? (a.add i)=some u∧CR w w.heap.size (okb (fun _=>True) w.heap.size fun _=>none) (.sl 0 (xs.map .i)) u∧xs.length≤maxLen:=by
   intro i him
   obtain ⟨cs',hc,ht'⟩:=hi i (by rw [hmm]; split <;> omega)
   obtain ⟨u,xs,rfl,hcr,hlx⟩:=row_of he hf hD ht'
   rw [hC] at hc
   obtain ⟨_,_,hat⟩:=World.cells?_some hc
   have h1:=hat 0 (by omega)
   rw [Nat.mul_one,Go.Deep.add_add,Nat.add_zero] at h1
   exact ⟨u,xs,by rw [h1]; rfl,hcr,hlx⟩
  have hsel:∃ (F:Nat→Value) (X:Nat→List Int),∀ i,i < len0→w.cell? (a.add i)=some (F i)∧CR w w.heap.size (okb (fun _=>True) w.heap.size fun _=>none) (.sl 0 ((X i).map .i)) (F i)∧(X i).length≤maxLen:=by
   refine ⟨fun i=>if h:i < len0 then (each i h).choose else undef,fun i=>if h:i < len0 then (each i h).choose_spec.choose else [],fun i hi=>?_⟩
   simp only [dif_pos hi]
   exact (each i hi).choose_spec.choose_spec
  obtain ⟨F,X,hFX⟩:=hsel
  refine ⟨(List.range len0).map X,?_,by simp; omega,fun r hr=>?_⟩
  ·by_cases h0:0 < len0
   ·have hlt:a.block < w.heap.size:=by
     have h1:=(hFX 0 h0).1
     unfold World.cell? at h1
     rw [block_add] at h1
     by_cases hb:a.block < w.heap.size
     ·exact hb
     ·rw [Array.getElem?_eq_none (by omega)] at h1
      cases h1
    have hflat:∀ m:List (List Int),flat (m.map eR)=m.map eR:=by
     intro m
     induction m with
     | nil=>rfl
     | cons n m ih=>rw [List.map_cons,flat_cons,ih]; rfl
    unfold rss
    refine .sl 0 _ a len0 cap0 1 ((List.range len0).map F) (by simp) h0 hl hm (fun e he=>?_) (ok_top _ _) hlt (fun _=>hlt) (fun h=>by omega) (fun h=>by cases h) (by rw [hflat]; simp) (fun j u hu=>?_) (fun j d u hc hu=>?_)
    ·obtain ⟨n,_,rfl⟩:=List.mem_map.1 he
     rfl
    ·obtain ⟨h1,h2⟩:=List.getElem?_eq_some_iff.1 hu
     simp at h1 h2
     subst h2
     exact (hFX j h1).1
    ·rw [hflat] at hc
     obtain ⟨h1,h2⟩:=List.getElem?_eq_some_iff.1 hu
     obtain ⟨h3,h4⟩:=List.getElem?_eq_some_iff.1 hc
     simp at h1 h2 h4
     subst h2
     subst h4
     exact (hFX j h1).2.1
   ·have:len0=0:=by omega
    subst this
    exact .sl0 _ _ _ hm
  ·obtain ⟨i,hi,rfl⟩:=List.mem_map.1 hr
   exact (hFX i (List.mem_range.1 hi)).2.2
end
end Go.Lg

namespace Go.Lg
open Go.RowKit
variable [GL]
set_option linter.unusedVariables false
set_option linter.unusedSimpArgs false
theorem viewOps_cons {P:Program} {ops:Array Oper} {os:List Oper} {l:LOp} {ls:List LOp} (h:viewOps P ops os=some (l :: ls)):∃ o os',os=o :: os'∧viewOp P ops o=some l∧viewOps P ops os'=some ls:=by
 cases os with
 | nil=>simp [viewOps] at h
 | cons o os =>
  simp only [viewOps] at h
  split at h
  ·rename_i l' hl
   split at h
   ·rename_i ls' hls
    injection h with h
    injection h with h1 h2
    subst h1; subst h2
    exact ⟨o,os,rfl,hl,hls⟩
   ·cases h
  ·cases h
theorem viewOps_nil {P:Program} {ops:Array Oper} {os:List Oper} (h:viewOps P ops os=some []):os=[]:=by
 cases os with
 | nil=>rfl
 | cons o os =>
  simp only [viewOps] at h
  split at h
  ·split at h
   ·cases h
   ·cases h
  ·cases h
section
variable {P:Program} {c:Cx}

theorem MR.ext {O:OM} {ob:OB} {w w':World} (hm:MR c O ob w) (hh:∀ b,b < w.heap.size→w'.heap[b]?=w.heap[b]?) (hs:w.heap.size≤w'.heap.size) (h1:w'.os=w.os) (h2:w'.tape=w.tape) (h3:w'.output=w.output) :
  MR c O ob w'∧Tr c.ok0 c.B (fun _=>False) w O w' O:=by
 have ht:Tr c.ok0 c.B (fun _=>False) w O w' O:=⟨hs,fun b _ hb=>hh b hb,fun _ h _=>h,fun _ _ _ h=>.inl h,fun _ p _ h=>⟨p,h,.inl rfl⟩⟩
 refine ⟨⟨h1.trans hm.os,h2.trans hm.tape,h3.trans hm.output,Nat.le_trans hm.size hs,fun b hb hr=>?_,hm.dom,fun k p es hk he=>(hm.obj k p es hk he).tr ht (fun g hg=>hh g (hm.lt hk hg)),hm.inj,hm.base,hm.sz,hm.refs,hm.glob⟩,ht⟩
 rw [hh b (Nat.lt_of_lt_of_le hb hm.size)]
 exact hm.frame b hb hr

/-- From before a round to behind it: the record is ags it was. -/
theorem Tr.round {w wa w2:World} {O Oa O2:OM} {l:Nat} {o o1:Obj} (hl:w.heap[l]?=some o) (t1:Tr c.ok0 c.B (fun _=>False) w O wa Oa) (t2:Tr c.ok0 c.B (fun _=>False) (wa.putObj l o1) Oa w2 O2):Tr c.ok0 c.B (fun _=>False) w O (w2.putObj l o) O2:=by
 have hlt:l < w.heap.size:=(Array.getElem?_eq_some_iff.1 hl).1
 have s2:wa.heap.size≤w2.heap.size:=by have:=t2.size; rwa [World.putObj_size] at this
 refine ⟨by rw [World.putObj_size]; exact Nat.le_trans t1.size s2,fun b hb hlt'=>?_,fun b hb hlt'=>t2.ok b (t1.ok b hb hlt') (by rw [World.putObj_size]; exact Nat.lt_of_lt_of_le hlt' t1.size),fun k p' _ hp=>?_,fun k p h5 hp=>?_⟩
 ·by_cases e:b=l
  ·subst e
   rw [World.putObj_heap_same (Nat.lt_of_lt_of_le hlt (Nat.le_trans t1.size s2)),hl]
  ·rw [World.putObj_heap_other e,t2.heap b (t1.ok b hb hlt') (by rw [World.putObj_size]; exact Nat.lt_of_lt_of_le hlt' t1.size),World.putObj_heap_other e,t1.heap b hb hlt']
 ·rcases t2.obj k p' (fun h=>h) hp with h1 | ⟨p,h1,h2⟩
  ·exact t1.obj k p' (fun h=>h) h1
  ·rcases t1.obj k p (fun h=>h) h1 with h3 | ⟨q,h3,h4⟩
   ·exact .inr ⟨p,h3,h2⟩
   ·exact .inr ⟨q,h3,by omega⟩
 ·obtain ⟨p1,h1,h2⟩:=t1.five k p h5 hp
  obtain ⟨p2,h3,h4⟩:=t2.five k p1 h5 h1
  refine ⟨p2,h3,?_⟩
  rcases h2 with rfl | h2
  ·exact h4
  ·rcases h4 with rfl | h4
   ·exact .inr h2
   ·exact .inr (by omega)

end
end Go.Lg
