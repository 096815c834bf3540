/- Part B of a logical reading of translated Go: what a frame holds is said by lists, and each operation is proved against the model. No conditions. -/
import Derived.Test.YtffghabijlfpeaaDoorLgA
import Derived.Laws.BytesArg
import Derived.LoopNIn
import Derived.OrdersIn
import Derived.TacticsIn
import Derived.RangeFuncRecord
set_option linter.unusedSectionVars false
set_option linter.unusedVariables false
set_option linter.unusedSimpArgs false
namespace Go.Lg
open Go.RowKit
variable [GL]
set_option linter.unusedVariables false

theorem cutP_0 {p:Nat} (h:cutP p=0):p=0:=by unfold cutP at h; split at h <;> omega
theorem cutP_n {p:Nat} (h:cutP p=1∨cutP p=3):p=1∨p=3:=by unfold cutP at h; split at h <;> omega
theorem cutP_1 {p:Nat} (h:cutP p=1):False:=by unfold cutP at h; split at h <;> omega
section
variable {P:Program} {c:Cx} {fr:Nat→Bool} {w:World} {O:OM} {ob ob':OB} {o:Oper} {ρ:Operand→Value}

/-- Two bounds of a slice expression,as they stand in the text. -/
inductive Bd (ρ:Operand→Value):Option Operand→Option Int→Prop
 | none:Bd ρ none none
 | some (x:Operand) (n:Int) (h:ρ x=.int .i64 n):Bd ρ (some x) (some n)

theorem run_bounds {lo hi:Option Operand} {a h:Option Int} (hl:Bd ρ lo a) (hh:Bd ρ hi h) (sl:Bool) (len cap:Nat) (h0:0≤a.getD 0) (h1:a.getD 0≤h.getD len) (h2:h.getD len≤len) (hc:len≤cap) :
  (Instr.sliceBounds sl len cap (lo.map ρ) (hi.map ρ) none).run P w=.ok ((a.getD 0).toNat,(h.getD len).toNat,cap) w:=by
 cases hl with
 | none =>
  cases hh with
  | none=>simp [Instr.sliceBounds]
  | some x n hx =>
   simp only [Option.getD_none,Option.getD_some] at h1 h2 h0 ⊢
   simp [Instr.sliceBounds,hx,run_sliceBound,show 0≤n by omega,show n≤(cap:Int) by omega]
 | some y m hy =>
  cases hh with
  | none =>
   simp only [Option.getD_none,Option.getD_some] at h1 h2 h0 ⊢
   simp [Instr.sliceBounds,hy,run_sliceBound,h0,h1]
  | some x n hx =>
   simp only [Option.getD_some] at h1 h2 h0 ⊢
   have e:((n.toNat:Nat):Int)=n:=by omega
   simp [Instr.sliceBounds,hx,hy,run_sliceBound,show 0≤n by omega,show n≤(cap:Int) by omega,h0,e,h1]

theorem out_slices (hm:MR c O ob w) {t:TypeId} {x:Operand} {lo hi:Option Operand} (ho:o.op=.slice t x lo hi none) (ht:P.underlying t=some .string) {l:List UInt8} {a h:Option Int} (hx:VR w c.B (okb c.ok0 c.B O) O (.s l) (ρ x))
  (hl:Bd ρ lo a) (hh:Bd ρ hi h) {d:DV} (he:sliceS l a h=some d):Out P c fr w O ((execOp ρ o).run P w) d ob:=by
 unfold sliceS at he
 simp only at he
 split at he
 ·rename_i hc
  injection he with he
  subst he
  have hs:(ByteArray.mk l.toArray).size=l.length:=by show l.toArray.size=_; simp
  have hr:=run_bounds (P:=P) (w:=w) hl hh false l.length l.length hc.1 hc.2.1 hc.2.2 (Nat.le_refl _)
  have hex:(ByteArray.mk l.toArray).extract (a.getD 0).toNat (h.getD l.length).toNat=ByteArray.mk ((l.take (h.getD l.length).toNat).drop (a.getD 0).toNat).toArray:=by
   apply ByteArray.ext
   rw [ByteArray.data_extract]
   apply Array.ext'
   rw [Array.toList_extract,List.extract_eq_take_drop,List.drop_take]
  refine Out.same hm (v:=.string ⟨((l.take (h.getD l.length).toNat).drop (a.getD 0).toNat).toArray⟩) ?_ (.mkS _)
  rw [← hex]
  simp [execOp,ho,hx.str,Instr.sliceAt,run_underlying ht,Instr.slice,hs,hr]
 ·cases he

theorem out_slice (hm:MR c O ob w) {t e:TypeId} {x:Operand} {lo hi:Option Operand} (ho:o.op=.slice t x lo hi none) (ht:P.underlying t=some (.slice e)) {sz:Nat} (hsz:szOf P e=some sz) {a h:Option Int} {d:DV} (hx:VR w c.B (okb c.ok0 c.B O) O d (ρ x))
  (hl:Bd ρ lo a) (hh:Bd ρ hi h) {r:DV} (he:sliceD ob d sz a h=some r):Out P c fr w O ((execOp ρ o).run P w) r ob:=by
 simp only [szOf,Option.map_eq_some_iff] at hsz
 obtain ⟨i,hi',rfl⟩:=hsz
 have hrun:∀ {A:Option Addr} {len cap:Nat},ρ x=.slice A len cap→0≤a.getD 0→a.getD 0≤h.getD len→h.getD len≤len→len≤cap →
   (execOp ρ o).run P w=.ok (.value (.slice (if cap=(a.getD 0).toNat then A else A.map (·.add ((a.getD 0).toNat * i.size))) ((h.getD len).toNat - (a.getD 0).toNat) (cap - (a.getD 0).toNat))) w:=by
  intro A len cap hv h0 h1 h2 h3
  have hr:=run_bounds (P:=P) (w:=w) hl hh true len cap h0 h1 h2 h3
  simp [execOp,ho,hv,Instr.sliceAt,run_underlying ht,Instr.slice,hr,sizeOf,typeInfo,hi']
 cases d with
 | sl p es =>
  simp only [sliceD] at he
  split at he
  ·rename_i hc
   injection he with he
   subst he
   obtain ⟨hc0,hc1,hc2,hw⟩:=hc
   have hlen:((es.take (h.getD es.length).toNat).drop (a.getD 0).toNat).length=(h.getD es.length).toNat - (a.getD 0).toNat:=by simp; omega
   by_cases h0:0 < es.length
   ·obtain ⟨ad,cap,sz',xs,hv,hcap,hmx,hwid,hok,hblk,hold,hnew,hcell,hcr⟩:=hx.sl'.sl' h0
    have hs':sz'=i.size:=by
     obtain ⟨q,hq⟩:=List.exists_mem_of_length_pos h0
     rw [← hwid q hq,hw q hq]
    subst hs'
    refine Out.same hm (hrun hv hc0 hc1 hc2 hcap) (.cr _ _ ?_)
    by_cases h1:(a.getD 0).toNat < (h.getD es.length).toNat
    ·rw [if_neg (by omega)]
     have hwt:∀ q∈es.take (h.getD es.length).toNat,q.cells.length=i.size:=fun q hq=>hw q (List.mem_of_mem_take hq)
     have hfl:flat ((es.take (h.getD es.length).toNat).drop (a.getD 0).toNat)=((flat es).take ((h.getD es.length).toNat * i.size)).drop ((a.getD 0).toNat * i.size):=by rw [flat_drop hwt,flat_take hw]
     have hcs:=(hcr.take ((h.getD es.length).toNat * i.size)).drop ((a.getD 0).toNat * i.size)
     rw [← hfl] at hcs
     refine .sl _ _ (ad.add ((a.getD 0).toNat * i.size)) _ _ i.size _ hlen (by omega) (by omega) (by omega) (fun q hq=>hw q (mem_take_drop hq)) (by rw [block_add]; exact hok) (by rw [block_add]; exact hblk) (fun hp=>by rw [block_add]; exact hold (cutP_0 hp)) (fun hp=>by rw [block_add]; exact hnew (cutP_n hp)) (fun hp=>(cutP_1 hp).elim) hcs.1 (fun j u hu=>?_) hcs.2
     rw [add_add']
     rw [List.getElem?_drop,List.getElem?_take] at hu
     split at hu
     ·exact hcell _ u hu
     ·cases hu
    ·have e1:(es.take (h.getD es.length).toNat).drop (a.getD 0).toNat=[]:=List.eq_nil_of_length_eq_zero (by omega)
     have e2:(h.getD es.length).toNat - (a.getD 0).toNat=0:=by omega
     rw [e1,e2]
     exact .sl0 _ _ _ (by omega)
   ·have hnil:es=[]:=List.eq_nil_of_length_eq_zero (by omega)
    subst hnil
    have hcr:=hx.sl'
    generalize hv:ρ x=vx at hcr
    cases hcr with
     | sl0 _ A cap hmx =>
      refine Out.same hm (hrun hv hc0 hc1 hc2 (Nat.zero_le _)) (.cr _ _ ?_)
      have e2:(h.getD ((0:Nat):Int)).toNat - (a.getD 0).toNat=0:=by simp only [List.length_nil] at hc2; omega
      simp only [List.take_nil,List.drop_nil]
      rw [e2]
      exact .sl0 _ _ _ (by omega)
     | sl _ _ ad n cap sz xs hn h00=>simp at hn; omega
  ·cases he
 | own k n l0 h0 =>
  simp only [sliceD] at he
  cases hlk:lookO ob k with
  | none=>rw [hlk] at he; cases he
  | some es =>
   rw [hlk] at he
   simp only at he
   split at he
   ·rename_i hcond
    obtain ⟨hn,hlo,hhi,hsz⟩:=hcond
    split at he
    ·rename_i hc
     injection he with he
     subst he
     obtain ⟨p,hO,hp,_,_,hvw,hor⟩:=hx.own_cur hm hlk hn
     obtain ⟨A,cp,hv,hc1,hc2,hA,hfull,hhd⟩:=hvw
     have hpsz:p.sz=i.size:=by rw [hm.sz k p hO,hsz]
     refine Out.same hm (hrun hv hc.1 hc.2.1 hc.2.2 hc1) (.own k n (l0+(a.getD 0).toNat) (l0+(h.getD ((h0 - l0:Nat):Int)).toNat) p _ hO hp (by omega) (by omega) ⟨(if cp=(a.getD 0).toNat then A else A.map (·.add ((a.getD 0).toNat * i.size))),cp - (a.getD 0).toNat,?_,by omega,by omega,fun hlt=>?_,fun h1 h2=>?_,fun h1=>?_⟩)
     ·congr 1; omega
     ·obtain ⟨g,hg,rfl⟩:=hA (by omega)
      refine ⟨g,hg,?_⟩
      rw [if_neg (by omega)]
      simp only [Option.map_some,add_plain',Option.some.injEq,hpsz]
      rw [← Nat.add_mul]
     ·have e1:l0=0:=by omega
      have e2:(a.getD 0).toNat=0:=by omega
      have e3:h0=p.len:=by omega
      have e4:(h.getD ((h0 - l0:Nat):Int)).toNat=h0 - l0:=by omega
      rw [← hfull e1 e3,hv,e2,e4]
      simp [Addr.add]
     ·have e1:l0=0:=by omega
      have e2:(a.getD 0).toNat=0:=by omega
      obtain ⟨n',hn'⟩:=hhd e1
      refine ⟨n',?_⟩
      rw [hn',e2]
      simp [Addr.add]
    ·cases he
   ·cases he
 | _=>simp [sliceD] at he

theorem out_ext (hm:MR c O ob w) {x:Operand} {j:Nat} (ho:o.op=.extract x j) {ds:List DV} {d:DV} (hx:VR w c.B (okb c.ok0 c.B O) O (.tup ds) (ρ x)) (hd:ds[j]?=some d):Out P c fr w O ((execOp ρ o).run P w) d ob:=by
 generalize hv:ρ x=vx at hx
 cases hx with
 | cr _ _ h=>cases h
 | tup _ vs hl hnt h =>
  have hj:j < ds.length:=(List.getElem?_eq_some_iff.1 hd).1
  have hu:vs[j]?=some vs[j]:=Array.getElem?_eq_getElem (by omega)
  refine Out.same hm (v:=vs[j]) ?_ (h j d _ hd hu)
  simp [execOp,ho,hv,Instr.extract,hu]

theorem out_b2i (hm:MR c O ob w) {x:Operand} {s t:TypeId} (ho:o.op=.convert s t x) (hs:P.underlying s=some (.int .u8)) (ht:P.underlying t=some (.int .i64)) {n:Nat} (hx:VR w c.B (okb c.ok0 c.B O) O (.y n) (ρ x)):Out P c fr w O ((execOp ρ o).run P w) (.i n) ob:=by
 refine Out.same hm (v:=.int .i64 n) ?_ (.mkI _)
 have hn:=hx.byte_lt
 have hw:IntKind.i64.wrap (n:Int)=n:=by rw [IntKind.wrap_i64]; omega
 simp [execOp,ho,hx.byte,convert,run_underlying hs,run_underlying ht,Conv.intToInt,hw]
theorem out_i2r (hm:MR c O ob w) {x:Operand} {s t:TypeId} (ho:o.op=.convert s t x) (hs:P.underlying s=some (.int .i64)) (ht:P.underlying t=some (.int .i32)) {n:Int} (hx:VR w c.B (okb c.ok0 c.B O) O (.i n) (ρ x)):Out P c fr w O ((execOp ρ o).run P w) (.r (IntKind.i32.wrap n)) ob:=by
 refine Out.same hm (v:=.int .i32 (IntKind.i32.wrap n)) ?_ (.cr _ _ (.r _))
 simp [execOp,ho,hx.int,convert,run_underlying hs,run_underlying ht,Conv.intToInt]
theorem out_i2q (hm:MR c O ob w) {x:Operand} {s t:TypeId} (ho:o.op=.convert s t x) (hs:P.underlying s=some (.int .i64)) (ht:P.underlying t=some (.int .u64)) {n:Int} (hx:VR w c.B (okb c.ok0 c.B O) O (.i n) (ρ x)):Out P c fr w O ((execOp ρ o).run P w) (.q (n % 18446744073709551616).toNat) ob:=by
 have hw:IntKind.u64.wrap n=((n % 18446744073709551616).toNat:Int):=by
  simp only [IntKind.wrap,IntKind.signed,IntKind.bits]
  simp
  omega
 refine Out.same hm (v:=.int .u64 (IntKind.u64.wrap n)) ?_ (by rw [hw]; exact .cr _ _ (.q _ (by omega)))
 simp [execOp,ho,hx.int,convert,run_underlying hs,run_underlying ht,Conv.intToInt]
theorem out_q2i (hm:MR c O ob w) {x:Operand} {s t:TypeId} (ho:o.op=.convert s t x) (hs:P.underlying s=some (.int .u64)) (ht:P.underlying t=some (.int .i64)) {n:Nat} (hx:VR w c.B (okb c.ok0 c.B O) O (.q n) (ρ x)):Out P c fr w O ((execOp ρ o).run P w) (.i (wr n)) ob:=by
 refine Out.same hm (v:=.int .i64 (IntKind.i64.wrap n)) ?_ (.mkI _)
 simp [execOp,ho,hx.quad.1,convert,run_underlying hs,run_underlying ht,Conv.intToInt]
theorem out_q2q (hm:MR c O ob w) {x:Operand} {s t:TypeId} (ho:o.op=.convert s t x) (hs:P.underlying s=some (.int .u64)) (ht:P.underlying t=some (.int .u64)) {n:Nat} (hx:VR w c.B (okb c.ok0 c.B O) O (.q n) (ρ x)):Out P c fr w O ((execOp ρ o).run P w) (.q n) ob:=by
 have hn:=hx.quad.2
 have hw:IntKind.u64.wrap (n:Int)=n:=by
  simp only [IntKind.wrap,IntKind.signed,IntKind.bits]
  simp
  omega
 refine Out.same hm (v:=.int .u64 n) ?_ (.cr _ _ (.q _ hn))
 simp [execOp,ho,hx.quad.1,convert,run_underlying hs,run_underlying ht,Conv.intToInt,hw]
theorem encode_low {n:Int} (h0:0≤n) (h1:n < 128):Utf8.encode n=⟨#[n.toNat.toUInt8]⟩:=by
 have hv:Utf8.valid n=true:=by unfold Utf8.valid; simp; omega
 unfold Utf8.encode
 simp only [hv,if_true]
 rw [if_pos (by omega)]
theorem out_r2s (hm:MR c O ob w) {x:Operand} {s t:TypeId} (ho:o.op=.convert s t x) (hs:P.underlying s=some (.int .i32)) (ht:P.underlying t=some .string) {n:Int} (h0:0≤n) (h1:n < 128) (hx:VR w c.B (okb c.ok0 c.B O) O (.r n) (ρ x)):Out P c fr w O ((execOp ρ o).run P w) (.s [n.toNat.toUInt8]) ob:=by
 refine Out.same hm (v:=.string ⟨[n.toNat.toUInt8].toArray⟩) ?_ (.mkS _)
 simp [execOp,ho,hx.rune,convert,run_underlying hs,run_underlying ht,Conv.intToString,encode_low h0 h1]
theorem ysOf_to:∀ {es:List DV} {l:List UInt8},ysOf es=some l→∃ ns:List Nat,es=ns.map DV.y∧l=ns.map UInt8.ofNat
 | [],l,h=>by
  simp only [ysOf,Option.some.injEq] at h
  exact ⟨[],rfl,h.symm⟩
 | e :: r,l,h=>by
  cases e <;> simp only [ysOf,reduceCtorEq] at h
  cases h2:ysOf r with
  | none=>rw [h2] at h; cases h
  | some l2 =>
   rw [h2] at h
   injection h with h
   obtain ⟨ns,e1,e2⟩:=ysOf_to h2
   exact ⟨_ :: ns,by rw [e1]; rfl,by rw [← h,e2]; rfl⟩
theorem flat_ys:∀ ns:List Nat,flat (ns.map DV.y)=ns.map DV.y
 | []=>rfl
 | n :: r=>by
  have:=flat_ys r
  simp only [flat,List.map_cons,List.flatMap_cons] at this ⊢
  rw [this]
  rfl
theorem out_b2s (hm:MR c O ob w) {x:Operand} {s t e:TypeId} (ho:o.op=.convert s t x) (hs:P.underlying s=some (.slice e)) (he:P.underlying e=some (.int .u8)) (ht:P.underlying t=some .string) {d:DV} {es:List DV} {l:List UInt8} (hx:VR w c.B (okb c.ok0 c.B O) O d (ρ x)) (hes:elems ob d=some es) (hl:ysOf es=some l):Out P c fr w O ((execOp ρ o).run P w) (.s l) ob:=by
 obtain ⟨A,cx,hv,hA⟩:=elems_ok hm hx hes
 obtain ⟨ns,rfl,rfl⟩:=ysOf_to hl
 rw [List.length_map] at hv hA
 have key:(convert s t (.slice A ns.length cx)).run P w=.ok (.string ⟨(ns.map UInt8.ofNat).toArray⟩) w:=by
  rw [run_convert_bytes_string w s t e A _ _ hs he ht]
  by_cases h0:0 < ns.length
  ·obtain ⟨ad,xs,rfl,hc,hcr⟩:=hA h0
   rw [flat_ys] at hcr
   have hxs:xs=(ns.map fun n:Nat=>(n:Int)).map (Value.int .u8):=by
    refine List.ext_getElem? fun j=>?_
    by_cases hj:j < ns.length
    ·have e1:(ns.map DV.y)[j]?=some (.y ns[j]):=by simp [hj]
     have jx:j < xs.length:=by rw [hcr.1,List.length_map]; exact hj
     have e2:xs[j]?=some xs[j]:=List.getElem?_eq_getElem jx
     have:=hcr.2 j _ _ e1 e2
     rw [e2]
     generalize xs[j]=u at this
     cases this
     simp [hj]
    ·rw [List.getElem?_eq_none (by rw [hcr.1,List.length_map]; omega),List.getElem?_eq_none (by simp; omega)]
   have L:(loadCells ad ns.length).run P w=.ok ((ns.map fun n:Nat=>(n:Int)).map (Value.int .u8)).toArray w:=by
    have:=_root_.Go.run_loadCells_list (P:=P) w ad ((ns.map fun n:Nat=>(n:Int)).map (Value.int .u8)) (fun j v hj=>hc j v (by rw [hxs]; exact hj))
    simpa using this
   rw [run_bytesToString w ad _ cx _ L,foldl_push_bytes]
   simp [ByteArray.empty,ByteArray.emptyWithCapacity,Function.comp_def]
   rfl
  ·have h0:ns=[]:=List.eq_nil_of_length_eq_zero (by omega)
   subst h0
   cases A with
   | none =>
    simp [Conv.bytesToString,ByteArray.empty,ByteArray.emptyWithCapacity]
    rfl
   | some ad =>
    have L:(loadCells ad 0).run P w=.ok (([]:List Int).map (Value.int .u8)).toArray w:=by
     simpa using _root_.Go.run_loadCells_list (P:=P) w ad [] (fun j v hj=>by simp at hj)
    have:=run_bytesToString (P:=P) w ad 0 cx [] L
    rw [List.length_nil,this]
    rfl
 refine Out.same hm (v:=.string ⟨(ns.map UInt8.ofNat).toArray⟩) ?_ (.mkS _)
 simp [execOp,ho,hv,key]
theorem VR.cellD {d:DV} {v:Value} (h:VR w c.B (okb c.ok0 c.B O) O d v) (hd:d.cell=true):CR w c.B (okb c.ok0 c.B O) d v:=by
 cases h <;> first | assumption | (exact CR.ofA ‹_›) | (simp [DV.cell] at hd; done)
theorem capArg_ok (hm:MR c O ob w) {d d':DV} {v:Value} {ob':OB} (h:VR w c.B (okb c.ok0 c.B O) O d v) (hs:capArg ob d=some (d',ob')) :
  ∃ O',MR c O' ob' w∧Tr c.ok0 c.B (fun _=>False) w O w O'∧AR w c.B (okb c.ok0 c.B O') d' v:=by
 have plain:(if d.cell=true then some (d,ob) else none)=some (d',ob')→∃ O',MR c O' ob' w∧Tr c.ok0 c.B (fun _=>False) w O w O'∧AR w c.B (okb c.ok0 c.B O') d' v:=by
  intro hs
  split at hs
  ·rename_i hc
   injection hs with hs
   simp only [Prod.mk.injEq] at hs
   obtain ⟨rfl,rfl⟩:=hs
   exact ⟨O,hm,Tr.refl _ _ _ _ _,.inl (h.cellD hc)⟩
  ·cases hs
 unfold capArg at hs
 split at hs
 ·rename_i k n
  split at hs
  ·rename_i c1 hlk
   split at hs
   ·rename_i hc
    injection hs with hs
    simp only [Prod.mk.injEq] at hs
    obtain ⟨rfl,rfl⟩:=hs
    obtain ⟨hk7,rfl⟩:=hc
    obtain ⟨p,g,hO,hp,hgb,hve,hor⟩:=h.oad_cur hm hlk rfl
    obtain ⟨hm',ht⟩:=hm.drop k (by omega)
    obtain ⟨xs,hcs,hcell⟩:=hor.elem (a:=0) (e:=c1) rfl hgb
    refine ⟨_,hm',ht,.inr ⟨c1,⟨g,0,none⟩,xs,rfl,by rw [hve]; simp,⟨fun hlt=>?_,fun j q hj hq=>?_⟩,hm.lt hO hgb,fun j u hu=>?_,hcs.tr ht⟩⟩
    ·rcases hm.base k p g hO hgb with h1 | ⟨h1,_⟩
     ·have h2:g < c.B:=hlt
      omega
     ·omega
    ·by_cases hjk:j=k
     ·subst hjk; rw [upd_same] at hj; cases hj
     ·rw [upd_other O _ hjk] at hj
      exact hjk (hm.inj j k q p g hj hO hq hgb)
    ·have:=hcell j u hu
     rw [add_plain']
     simpa using this
   ·cases hs
  ·cases hs
 ·rename_i c1
  injection hs with hs
  simp only [Prod.mk.injEq] at hs
  obtain ⟨rfl,rfl⟩:=hs
  obtain ⟨ad,xs,rfl,h1,h2,h3,h4⟩:=h.adr'
  exact ⟨O,hm,Tr.refl _ _ _ _ _,.inr ⟨c1,ad,xs,rfl,rfl,h1,h2,h3,h4⟩⟩
 ·exact plain hs
theorem capL_ok:∀ {xs:List DV} {vs:List Value} {ds:List DV} {ob ob':OB} {O:OM},MR c O ob w→vs.length=xs.length→(∀ (j:Nat) (d:DV) (v:Value),xs[j]?=some d→vs[j]?=some v→VR w c.B (okb c.ok0 c.B O) O d v) →
  capL ob xs=some (ds,ob')→∃ O',MR c O' ob' w∧Tr c.ok0 c.B (fun _=>False) w O w O'∧ARs w c.B (okb c.ok0 c.B O') ds vs
 | [],[],ds,ob,ob',O,hm,_,_,hs=>by
  simp only [capL,Option.some.injEq,Prod.mk.injEq] at hs
  obtain ⟨rfl,rfl⟩:=hs
  exact ⟨O,hm,Tr.refl _ _ _ _ _,rfl,fun j d v h=>by simp at h⟩
 | [],_ :: _,_,_,_,_,_,hl,_,_=>by simp at hl
 | _ :: _,[],_,_,_,_,_,hl,_,_=>by simp at hl
 | x :: xs,v :: vs,ds,ob,ob',O,hm,hl,h,hs=>by
  simp only [capL] at hs
  cases h1:capArg ob x with
  | none=>rw [h1] at hs; cases hs
  | some r1 =>
   obtain ⟨d1,ob1⟩:=r1
   rw [h1] at hs
   simp only at hs
   cases h2:capL ob1 xs with
   | none=>rw [h2] at hs; cases hs
   | some r2 =>
    obtain ⟨ds2,ob2⟩:=r2
    rw [h2] at hs
    injection hs with hs
    simp only [Prod.mk.injEq] at hs
    obtain ⟨rfl,rfl⟩:=hs
    obtain ⟨O1,hm1,ht1,hc1⟩:=capArg_ok hm (h 0 x v rfl rfl) h1
    obtain ⟨O2,hm2,ht2,hc2⟩:=capL_ok hm1 (by simpa using hl) (fun j d u hd hu=>(h (j+1) d u (by simpa using hd) (by simpa using hu)).tr ht1 (fun _ h=>h.elim)) h2
    refine ⟨O2,hm2,(ht1.trans ht2).mono (fun _ h=>by rcases h with h | h <;> exact h),by simp [hc2.1],fun j d u hd hu=>?_⟩
    cases j with
    | zero =>
     simp at hd hu
     subst hd; subst hu
     exact hc1.tr ht2
    | succ j=>simp at hd hu; exact hc2.2 j d u hd hu
theorem capArg_dead {d e:DV} {ob1:OB} (h:capArg ob d=some (e,ob1)):e≠.dead:=by
 intro hd
 subst hd
 unfold capArg at h
 split at h
 ·split at h
  ·split at h <;> simp at h
  ·cases h
 ·simp at h
 ·split at h
  ·rename_i hc
   simp only [Option.some.injEq,Prod.mk.injEq] at h
   rw [h.1] at hc
   cases hc
  ·cases h
theorem capL_dead {ds cs:List DV} {ob1:OB} (h:capL ob ds=some (cs,ob1)):∀ r,cs≠.dead :: r:=by
 intro r hr
 subst hr
 cases ds with
 | nil=>simp [capL] at h
 | cons d ds =>
  simp only [capL] at h
  split at h
  ·rename_i e o1 he
   split at h
   ·simp only [Option.some.injEq,Prod.mk.injEq,List.cons.injEq] at h
    exact capArg_dead he h.1.1
   ·cases h
  ·cases h
theorem out_mkfn (hm:MR c O ob w) {f:Nat} {xs:Array Operand} (ho:o.op=.makeFunc (.func f) #[] xs) {ds cs:List DV} (hl:ds.length=xs.size) (hx:∀ (j:Nat) (d:DV) (x:Operand),ds[j]?=some d→xs.toList[j]?=some x→VR w c.B (okb c.ok0 c.B O) O d (ρ x)) (hc:capL ob ds=some (cs,ob')):Out P c fr w O ((execOp ρ o).run P w) (.fn f cs) ob':=by
 obtain ⟨O1,hm1,ht1,har⟩:=capL_ok (vs:=xs.toList.map ρ) hm (by simp [hl]) (fun j d v hd hv=>by
  rw [List.getElem?_map,Option.map_eq_some_iff] at hv
  obtain ⟨x,hx1,rfl⟩:=hv
  exact hx j d x hd hx1) hc
 have hd:=capL_dead hc
 refine ⟨.func (.func f) #[] (xs.map ρ),w,O1,.inl ?_,hm1,fnV_plain hd (xs.map ρ) ▸ .fn f cs _ (by simpa using har),ht1.mono (fun _ h=>h.elim)⟩
 simp [execOp,ho,Instr.makeFunc]
/-- A struct that is bound goes ahead of the arguments. -/
theorem out_mkbd (hm:MR c O ob w) {f:Nat} {x:Operand} (ho:o.op=.makeFunc (.func f) #[x] #[]) {ds cs:List DV} (hx:VR w c.B (okb c.ok0 c.B O) O (.st ds) (ρ x)) (hc:capL ob ds=some (cs,ob')):Out P c fr w O ((execOp ρ o).run P w) (.fn f (.dead :: cs)) ob':=by
 obtain ⟨us,hus,hl,hcr⟩:=hx.st'
 obtain ⟨O1,hm1,ht1,har⟩:=capL_ok (vs:=us.toList) hm hl (fun j d v hd hv=>.cr _ _ (hcr j d v hd hv)) hc
 refine ⟨.func (.func f) #[.agg us] #[],w,O1,.inl ?_,hm1,fnV_bound f cs .nilFunc us ▸ .fn f (.dead :: cs) ((Value.nilFunc :: us.toList).toArray) ?_,ht1.mono (fun _ h=>h.elim)⟩
 ·simp [execOp,ho,Instr.makeFunc,hus]
 ·refine ⟨by simpa using har.1,fun j d u hd hu=>?_⟩
  cases j with
  | zero =>
   simp at hd hu
   subst hd; subst hu
   exact .inl .nf
  | succ j=>exact har.2 j d u (by simpa using hd) (by simpa using hu)
theorem out_i2b (hm:MR c O ob w) {x:Operand} {s t:TypeId} (ho:o.op=.convert s t x) (hs:P.underlying s=some (.int .i64)) (ht:P.underlying t=some (.int .u8)) {n:Int} (hx:VR w c.B (okb c.ok0 c.B O) O (.i n) (ρ x)):Out P c fr w O ((execOp ρ o).run P w) (.y (wr8 n)) ob:=by
 have hw:IntKind.u8.wrap n=((wr8 n:Nat):Int):=by
  unfold wr8
  have:IntKind.u8.wrap n=n % 256:=by simp [IntKind.wrap,IntKind.signed,IntKind.bits]
  rw [this]; omega
 refine Out.same hm (v:=.int .u8 (wr8 n:Nat)) ?_ (.mkY _ (wr8_lt n))
 simp [execOp,ho,hx.int,convert,run_underlying hs,run_underlying ht,Conv.intToInt,hw]
end
end Go.Lg

namespace Go.Lg
open Go.RowKit
variable [GL]
set_option linter.unusedVariables false

def intFields (P:Program):Nat→List Field→Bool
 | _,[]=>true
 | k,f :: fs => f.name != "_" && f.offset == k && (match P.underlying f.type with | some (.int _) => true | _ => false) && intFields P (k + 1) fs
def intStruct (P:Program) (t:TypeId) (n:Nat):Bool :=
 match P.underlying t with
 | some (.struct fs)=>!P.stoodInHeld t && !P.eqGuardType P.depth t && fs.size == n && intFields P 0 fs.toList
 | _=>false

section
variable {P:Program} {c:Cx} {fr:Nat→Bool} {w:World} {O:OM} {ob ob':OB} {o:Oper} {ρ:Operand→Value}

theorem eqFields_ok {B:Nat} {ok:OkT} (d:Nat) {xs ys:Array Value} {cs ds:List DV} (hx:CRs w B ok cs xs.toList) (hy:CRs w B ok ds ys.toList):∀ (fs:List Field) (k:Nat) {r:Bool},intFields P k fs=true →
  (cs.drop k).length=fs.length→(ds.drop k).length=fs.length→eqI (cs.drop k) (ds.drop k)=some r→(Op.eqFields (d+1) xs ys fs).run P w=.ok r w
 | [],k,r,_,h1,h2,h=>by
  have e1:cs.drop k=[]:=List.eq_nil_of_length_eq_zero h1
  have e2:ds.drop k=[]:=List.eq_nil_of_length_eq_zero h2
  rw [e1,e2] at h
  simp only [eqI,Option.some.injEq] at h
  subst h
  rfl
 | f :: fs,k,r,hf,h1,h2,h=>by
  simp only [intFields,Bool.and_eq_true,bne_iff_ne,beq_iff_eq] at hf
  obtain ⟨⟨⟨hn,hoff⟩,hu⟩,hrest⟩:=hf
  subst hoff
  have hk1:f.offset < cs.length:=by simp at h1; omega
  have hk2:f.offset < ds.length:=by simp at h2; omega
  rw [List.drop_eq_getElem_cons hk1,List.drop_eq_getElem_cons hk2] at h
  have g1:=List.getElem?_eq_getElem hk1
  have g2:=List.getElem?_eq_getElem hk2
  generalize hc:cs[f.offset]=x at h g1
  generalize hd:ds[f.offset]=y at h g2
  obtain ⟨u,hu1,hcu⟩:=hx.get g1
  obtain ⟨v,hv1,hcv⟩:=hy.get g2
  have key:∀ (q:IntKind) (a b:Int),xs[f.offset]?=some (.int q a)→ys[f.offset]?=some (.int q b)→(if a == b then eqI (cs.drop (f.offset+1)) (ds.drop (f.offset+1)) else some false)=some r→(Op.eqFields (d+1) xs ys (f :: fs)).run P w=.ok r w:=by
   intro q a b p1 p2 h
   split at hu
   ·rename_i kk hun
    have hagg:(isAgg f.type).run P w=.ok false w:=by simp [isAgg,run_underlying hun]
    have q1:(Go.part f.type xs f.offset).run P w=.ok (.int q a) w:=by simp [Go.part,hagg,p1]
    have q2:(Go.part f.type ys f.offset).run P w=.ok (.int q b) w:=by simp [Go.part,hagg,p2]
    simp only [Op.eqFields,Sem.run_ite,if_pos hn,Sem.run_bind,q1,q2,Result.andThen_ok,run_equalIn_int w d f.type q kk a b hun]
    by_cases hab:a=b
    ·subst hab
     simp only [beq_self_eq_true,if_true] at h
     simp only [beq_self_eq_true,Bool.not_true,Bool.false_eq_true,if_false]
     exact eqFields_ok d hx hy fs (f.offset+1) hrest (by simp at h1 ⊢; omega) (by simp at h2 ⊢; omega) h
    ·have hne:(a == b)=false:=by simpa using hab
     simp only [hne,Bool.false_eq_true,if_false,Option.some.injEq] at h
     subst h
     simp only [hne,Bool.not_false,if_true]
     rfl
   ·cases hu
  cases x <;> cases y <;> simp only [eqI] at h <;> try (cases h; done)
  ·rename_i a b
   cases hcu
   cases hcv
   exact key .i64 a b (by simpa using hu1) (by simpa using hv1) h
  ·rename_i a b
   cases hcu
   cases hcv
   refine key .u32 a.toNat b.toNat (by simpa using hu1) (by simpa using hv1) ?_
   rw [eqW]; exact h

theorem out_eqs (hm:MR c O ob w) {op:BinOp} {t yt:TypeId} {x y:Operand} (ho:o.op=.binOp op t x y yt) {g:Bool} (hop:op=if g then .neq else .eql) {n:Nat} (ht:intStruct P t n=true) {cs ds:List DV} (h1:cs.length=n) (h2:ds.length=n)
  (hx:VR w c.B (okb c.ok0 c.B O) O (.st cs) (ρ x)) (hy:VR w c.B (okb c.ok0 c.B O) O (.st ds) (ρ y)) {r:Bool} (he:eqI cs ds=some r):Out P c fr w O ((execOp ρ o).run P w) (.b (xor g r)) ob:=by
 obtain ⟨xs,hxv,hxc⟩:=hx.st'
 obtain ⟨ys,hyv,hyc⟩:=hy.st'
 unfold intStruct at ht
 split at ht
 ·rename_i fs hu
  simp only [Bool.and_eq_true,Bool.not_eq_true',beq_iff_eq] at ht
  obtain ⟨⟨⟨hs1,hs2⟩,hs3⟩,hs4⟩:=ht
  have hfo:P.fieldsOf t=fs:=by simp [Program.fieldsOf,hu]
  have hun:P.underlying t=some (.struct (P.fieldsOf t)):=by rw [hfo]; exact hu
  have heq:(Op.equalIn 10000 t (.agg xs) (.agg ys)).run P w=.ok r w:=by
   rw [run_equalIn_agg w 9999 t xs ys hun hs1,hfo]
   exact eqFields_ok 9998 hxc hyc fs.toList 0 hs4 (by simp [h1,hs3]) (by simp [h2,hs3]) (by simpa using he)
  refine Out.same hm (v:=.bool (xor g r)) ?_ (.mkB _)
  subst hop
  cases g <;> simp [execOp,ho,hxv,hyv,run_eqGuard_agg w _ t x y xs ys hs2,run_eql_struct,run_neq_struct,heq]
 ·cases ht

theorem out_eqn (hm:MR c O ob w) {op:BinOp} {t e yt:TypeId} {x:Operand} (ho:o.op=.binOp op t x (.const (.slice none 0 0)) yt) {g:Bool} (hop:op=if g then .neq else .eql) (ht:P.underlying t=some (.slice e)) (hρ:∀ v,ρ (.const v)=v)
  {A:Option Addr} {l cp:Nat} (hx:ρ x=.slice A l cp):Out P c fr w O ((execOp ρ o).run P w) (.b (xor g A.isNone)) ob:=by
 refine Out.same hm (v:=.bool (xor g A.isNone)) ?_ (.mkB _)
 have h:∀ d:Nat,(Op.equalIn (d+1) t (.slice A l cp) (.slice none 0 0)).run P w=.ok A.isNone w:=fun d=>by
  cases A <;> simp [Op.equalIn,run_underlying ht]
 have h9:(Op.equal t (.slice A l cp) (.slice none 0 0)).run P w=.ok A.isNone w:=h 9999
 subst hop
 cases g <;> simp [execOp,ho,hρ,hx,run_eqGuard_plain _ t x (.const (.slice none 0 0)) (.slice A l cp) (.slice none 0 0),binOp,h9]

theorem out_i2i (hm:MR c O ob w) {x:Operand} {s t:TypeId} (ho:o.op=.convert s t x) (hs:P.underlying s=some (.int .i64)) (ht:P.underlying t=some (.int .i64)) {n:Int} (hx:VR w c.B (okb c.ok0 c.B O) O (.i n) (ρ x)):Out P c fr w O ((execOp ρ o).run P w) (.i (wr n)) ob:=by
 refine Out.same hm (v:=.int .i64 (wr n)) ?_ (.mkI _)
 simp [execOp,ho,hx.int,convert,run_underlying hs,run_underlying ht,Conv.intToInt,wr]
theorem out_s2s (hm:MR c O ob w) {x:Operand} {s t:TypeId} (ho:o.op=.convert s t x) (hs:P.underlying s=some .string) (ht:P.underlying t=some .string) {l:List UInt8} (hx:VR w c.B (okb c.ok0 c.B O) O (.s l) (ρ x)):Out P c fr w O ((execOp ρ o).run P w) (.s l) ob:=by
 refine Out.same hm (v:=.string ⟨l.toArray⟩) ?_ (.mkS _)
 simp [execOp,ho,hx.str,convert,run_underlying hs,run_underlying ht]
end

def isSlice (P:Program) (t:TypeId):Bool:=match P.underlying t with | some (.slice _)=>true | _=>false
def viewBin (P:Program) (op:BinOp) (t:TypeId):Option K :=
 match P.underlying t with
 | some (.int .i64) | some (.int .u8) | some (.int .u32) | some (.int .u64) | some .string=>some (.bin op)
 | some .bool=>match op with | .eql=>some (.eqb false) | .neq=>some (.eqb true) | _=>none
 | some (.struct fs)=>if intStruct P t fs.size then (match op with | .eql=>some (.eqs false fs.size) | .neq=>some (.eqs true fs.size) | _=>none) else none
 | _=>none
def viewConv (P:Program) (s t:TypeId) (d:Nat):Option K :=
 match P.underlying s,P.underlying t with
 | some (.int .u8),some (.int .i64)=>some (.conv .b2i (512 * d))
 | some (.int .i64),some (.int .u8)=>some (.conv .i2b (512 * d))
 | some (.int .i64),some (.int .i64)=>some (.conv .i2i (512 * d))
 | some .string,some .string=>some (.conv .same (512 * d))
 | some (.int .i64),some (.int .i32)=>some (.conv .i2r (512 * d))
 | some (.int .i32),some .string=>some (.conv .r2s (512 * d))
 | some (.int .i64),some (.int .u64)=>some (.conv .i2q (512 * d))
 | some (.int .u64),some (.int .i64)=>some (.conv .q2i (512 * d))
 | some (.int .u64),some (.int .u64)=>some (.conv .q2q (512 * d))
 | some (.slice e),some .string=>match P.underlying e with
  | some (.int .u8)=>some (.conv .b2s (512 * d))
  | _=>none
 | _,_=>none
def idAt (d:Option Tmp) (sz:Nat):Option Nat:=match d with | some d=>if 0 < sz∧sz < 64 then some (mkId d sz 0) else none | none=>none
/-- A row that will grow in a cell has a number of its own kind. -/
def fiveAt (pos:String) (len id:Nat):Nat:=if GL.fives.contains pos=true∧len=0 then id+5 else id
def loadInfo (P:Program) (t:TypeId):Option (Nat×Bool) :=
 match szOf P t,aggOf P t with
 | some n,some g=>if g=true∨n=1 then some (n,g) else none
 | _,_=>none
def fieldInfo (P:Program) (t:TypeId) (f:Nat):Option (Nat×Nat×Bool) :=
 match fieldOf P t f with
 | some (off,n,g)=>if g=true∨n=1 then some (off,n,g) else none
 | none=>none
def elemSz (P:Program) (t:TypeId):Option (TypeId×Nat) :=
 match elemT P t with
 | some e=>(szOf P e).map (e,·)
 | none=>none
def callId (d:Nat) (f:FuncId):Nat:=512 * d+if GL.muts.contains f then 4 else 0
def movesOf:List (Nat×List Nat)→Nat→Option (List Nat)
 | [],_=>none
 | (g,ms) :: r,f=>if g=f then some ms else movesOf r f
def sixOf:List (Nat×Nat×Nat)→Nat→Nat→Nat
 | [],_,_=>0
 | (e,g,n) :: r,d,f=>if e=d∧g=f then n else sixOf r d f
def callK (d:Nat) (f:FuncId):K:=match movesOf GL.moves f with
 | some ms=>.callm f ms (512 * d+sixOf GL.sixes d f)
 | none=>if GL.gives.contains f=true then .callg f (512 * d) else .call f (callId d f)
theorem callK_call {d f g id:Nat} (h:callK d f=.call g id):g=f:=by
 unfold callK at h
 split at h
 ·cases h
 ·split at h
  ·cases h
  ·injection h with h _; exact h.symm
theorem callK_callg {d f g id:Nat} (h:callK d f=.callg g id):g=f:=by
 unfold callK at h
 split at h
 ·cases h
 ·split at h
  ·injection h with h _; exact h.symm
  ·cases h
theorem callK_callm {d f g id:Nat} {ms:List Nat} (h:callK d f=.callm g ms id):g=f:=by
 unfold callK at h
 split at h
 ·injection h with h _; exact h.symm
 ·split at h <;> cases h
theorem callK_calld {d f id:Nat}:callK d f≠.calld id:=by
 intro h
 unfold callK at h
 split at h
 ·cases h
 ·split at h <;> cases h
theorem callK_effP {d f:Nat} {fr:Nat→Bool} {xs:List DV} {ob:OB}:effP fr (callK d f) xs ob=none:=by
 unfold callK
 split
 ·rfl
 ·split <;> rfl
def viewCall (P:Program) (o:Oper) (cl:Call):Option (K×List Operand) :=
 match cl.callee with
 | .value (.func f)=>match o.dst with
  | some d=>some (callK d f,cl.args.toList)
  | none=>some (callK 0 f,cl.args.toList)
 | .value (.tmp t)=>match o.dst with
  | some d=>some (.calld (512 * d),.tmp t :: cl.args.toList)
  | none=>some (.calld 0,.tmp t :: cl.args.toList)
 | .builtin .len=>match cl.args.toList,cl.argTypes.toList with
  | [x],[t]=>match P.underlying t with
   | some (.slice _)=>some (.len,[x])
   | some .string=>some (.lens,[x])
   | _=>none
  | _,_=>none
 | .builtin .append=>match cl.args.toList,cl.argTypes.toList with
  | [x,y],[t,u]=>if t=u then match elemT P t with
    | some e=>match elemInfo P e with
     | some (sz,_)=>(idAt o.dst sz).map fun id=>(.app id sz,[x,y])
     | none=>none
    | none=>none
   else none
  | _,_=>none
 | .builtin .max=>match cl.args.toList with
  | [x,y]=>some (.mm true,[x,y])
  | _=>none
 | .builtin .min=>match cl.args.toList with
  | [x,y]=>some (.mm false,[x,y])
  | _=>none
 | _=>none
def arrOf (P:Program) (t:TypeId):Option (Nat×Nat):=match P.underlying t with
 | some (.array len e)=>(szOf P e).map (len,·)
 | _=>none
/-- Is a slice held against nil? -/
def viewNil (P:Program) (op:BinOp) (t:TypeId) (y:Operand):Option Bool :=
 match y,op with
 | .const (.slice none 0 0),.eql=>if isSlice P t then some false else none
 | .const (.slice none 0 0),.neq=>if isSlice P t then some true else none
 | _,_=>none
def viewK (P:Program) (o:Oper):Option (K×List Operand) :=
 match o.op with
 | .move x=>some (.mv,[x])
 | .assign x=>match x with
  | .const (.slice none 0 0)=>if GL.nils.contains o.pos=true then some (.mv,[x]) else match elemSz P o.type with
   | some (_,sz)=>(idAt o.dst sz).map fun id=>(.newnil id,[])
   | none=>none
  | x=>some (.mv,[x])
 | .pick x y z=>some (.pick,[x,y,z])
 | .binOp op t x y _=>match viewNil P op t y with
  | some g=>some (.eqn g,[x])
  | none=>(viewBin P op t).map (·,[x,y])
 | .unOp op _ x=>some (.un op,[x])
 | .call cl=>viewCall P o cl
 | .nilCheck x=>some (.chk,[x])
 | .fieldAddr t x f=>(fieldInfo P t f).map fun i=>(.fld i.1 i.2.1 i.2.2,[x])
 | .field t x f=>(fieldInfo P t f).map fun i=>(.fldv i.1 i.2.1 i.2.2,[x])
 | .indexAddr t x y=>match arrOf P t with
  | some (len,sz)=>some (.idxp len sz,[x,y])
  | none=>(elemSz P t).map fun i=>(.idxa i.2,[x,y])
 | .index t x y=>match P.underlying t with
  | some .string=>some (.idx,[x,y])
  | _=>none
 | .load t x=>(loadInfo P t).map fun i=>(.load i.1 i.2,[x])
 | .store t x y=>(szOf P t).map fun n=>(.store n,[x,y])
 | .slice t x lo hi mx=>match mx with
  | none=>match P.underlying t with
   | some .string=>some (.slices lo.isSome hi.isSome,x :: (lo.toList++hi.toList))
   | some (.slice e)=>(szOf P e).map fun n=>(.slice lo.isSome hi.isSome n,x :: (lo.toList++hi.toList))
   | _=>none
  | some _=>none
 | .makeSlice t x y=>match elemT P t with
  | some e=>match zeroD P e with
   | some (sz,z)=>(idAt o.dst sz).map fun id=>(.make id sz z,[x,y])
   | none=>none
  | none=>none
 | .alloc e=>match zeroD P e with
  | some (sz,z)=>(idAt o.dst sz).map fun id=>(.alloc id z,[])
  | none=>none
 | .box e x=>match szOf P e with
  | some sz=>(idAt o.dst sz).map fun id=>(.box id,[x])
  | none=>none
 | .build t parts=>if fieldSizes P t then match elemInfo P t with
   | some (_,zs)=>(fieldsOf P t (parts.toList.map (·.1))).map fun ps=>(.build zs ps,parts.toList.map (·.2))
   | none=>none
  else none
 | .buildSlice t len parts=>match elemT P t with
  | some e=>match zeroD P e with
   | some (sz,z)=>if len * sz≤65536 then (idAt o.dst sz).map fun id=>(.bslice (fiveAt o.pos len id) len sz z (parts.toList.map (·.1)),parts.toList.map (·.2)) else none
   | none=>none
  | none=>none
 | .convert s t x=>match o.dst with
  | some d=>(viewConv P s t d).map (·,[x])
  | none=>none
 | .extract x j=>some (.ext j,[x])
 | .makeFunc (.func f) first xs=>match first.toList with
  | []=>some (.mkfn (mkNo f 0),xs.toList)
  | [x]=>if xs.isEmpty then some (.mkfn (mkNo f 1),[x]) else none
  | _=>none
 | _=>none

def slotOf (ops:Array Oper) (j:Nat):Option Nat:=match (ops[j]?).bind (·.dst) with
 | some t=>if t < 1048576 then some t else none
 | none=>none
def viewOp (P:Program) (ops:Array Oper) (o:Oper):Option LOp :=
 match viewK P o with
 | some (k,xs)=>match viewOpds xs with
  | some ys=>match o.guard with
   | none=>some ⟨o.dst,k,ys,none⟩
   | some (j,want)=>match slotOf ops j with
    | some t=>some ⟨o.dst,k,ys,some (t,want)⟩
    | none=>none
  | none=>none
 | none=>none
def viewOps (P:Program) (ops:Array Oper):List Oper→Option (List LOp)
 | []=>some []
 | o :: os=>match viewOp P ops o with
  | some l=>match viewOps P ops os with
   | some ls=>some (l :: ls)
   | none=>none
  | none=>none
end Go.Lg

namespace Go.Lg
open Go.RowKit
variable [GL]
set_option linter.unusedVariables false

section
variable {P:Program} {c:Cx} {fr:Nat→Bool} {w:World} {O:OM} {ob ob':OB} {o:Oper} {a:Act}

def Args (w:World) (c:Cx) (O:OM) (a:Act) (ds:List DV) (xs:List Operand):Prop :=
 ds.length=xs.length∧∀ (j:Nat) (d:DV) (x:Operand),ds[j]?=some d→xs[j]?=some x→VR w c.B (okb c.ok0 c.B O) O d (a.eval x)

theorem Args.of_view {S:LS} (hs:SR w c.B (okb c.ok0 c.B O) O S.sl a):∀ {xs:List Operand} {ys:List Opd},viewOpds xs=some ys→Args w c O a (ys.map S.get) xs
 | [],ys,h=>by simp only [viewOpds,Option.some.injEq] at h; subst h; exact ⟨rfl,by simp⟩
 | x :: xs,ys,h=>by
  simp only [viewOpds] at h
  split at h
  ·rename_i y hy
   split at h
   ·rename_i ys' hys
    injection h with h
    subst h
    obtain ⟨h1,h2⟩:=Args.of_view hs hys
    refine ⟨by simpa using h1,fun j d q hd hq=>?_⟩
    cases j with
    | zero=>simp at hd hq; subst hd; subst hq; exact viewOpd_ok hs hy
    | succ j=>simp only [List.map_cons,List.getElem?_cons_succ] at hd hq; exact h2 j d q hd hq
   ·cases h
  ·cases h
theorem Args.zero {ds:List DV} (h:Args w c O a ds []):ds=[]:=List.eq_nil_of_length_eq_zero h.1
theorem Args.one {ds:List DV} {x:Operand} (h:Args w c O a ds [x]):∃ d,ds=[d]∧VR w c.B (okb c.ok0 c.B O) O d (a.eval x):=by
 match ds,h.1 with
 | [d],_=>exact ⟨d,rfl,h.2 0 d x rfl rfl⟩
theorem Args.two {ds:List DV} {x y:Operand} (h:Args w c O a ds [x,y]):∃ d e,ds=[d,e]∧VR w c.B (okb c.ok0 c.B O) O d (a.eval x)∧VR w c.B (okb c.ok0 c.B O) O e (a.eval y):=by
 match ds,h.1 with
 | [d,e],_=>exact ⟨d,e,rfl,h.2 0 d x rfl rfl,h.2 1 e y rfl rfl⟩
theorem Args.three {ds:List DV} {x y z:Operand} (h:Args w c O a ds [x,y,z]):∃ d e f,ds=[d,e,f]∧VR w c.B (okb c.ok0 c.B O) O d (a.eval x)∧VR w c.B (okb c.ok0 c.B O) O e (a.eval y)∧VR w c.B (okb c.ok0 c.B O) O f (a.eval z):=by
 match ds,h.1 with
 | [d,e,f],_=>exact ⟨d,e,f,rfl,h.2 0 d x rfl rfl,h.2 1 e y rfl rfl,h.2 2 f z rfl rfl⟩

theorem elemSz_some {t e:TypeId} {sz:Nat} (h:elemSz P t=some (e,sz)):P.underlying t=some (.slice e)∧szOf P e=some sz:=by
 unfold elemSz at h
 split at h
 ·rename_i e' he
  simp only [Option.map_eq_some_iff,Prod.mk.injEq] at h
  obtain ⟨s,hs,rfl,rfl⟩:=h
  refine ⟨?_,hs⟩
  unfold elemT at he
  split at he
  ·rename_i hu; injection he with he; subst he; exact hu
  ·cases he
 ·cases h
theorem arrOf_some {t:TypeId} {len sz:Nat} (h:arrOf P t=some (len,sz)):∃ e,P.underlying t=some (.array len e)∧szOf P e=some sz:=by
 unfold arrOf at h
 split at h
 ·rename_i len' e hu
  simp only [Option.map_eq_some_iff,Prod.mk.injEq] at h
  obtain ⟨s,hs,rfl,rfl⟩:=h
  exact ⟨e,hu,hs⟩
 ·cases h
theorem elemT_some {t e:TypeId} (he:elemT P t=some e):P.underlying t=some (.slice e):=by
 unfold elemT at he
 split at he
 ·rename_i hu; injection he with he; subst he; exact hu
 ·cases he
theorem idAt_some {d:Option Tmp} {sz id:Nat} (h:idAt d sz=some id):0 < sz∧szId id=sz:=by
 unfold idAt at h
 split at h
 ·split at h
  ·rename_i hc
   injection h with h
   subst h
   exact ⟨hc.1,szId_mk _ _ _ hc.2 (by omega)⟩
  ·cases h
 ·cases h
theorem idAt_zero {d:Option Tmp} {sz id:Nat} (h:idAt d sz=some id):id % 8=0:=by
 unfold idAt at h
 split at h
 ·split at h
  ·injection h with h
   subst h
   unfold mkId; omega
  ·cases h
 ·cases h
theorem fiveAt_sz {pos:String} {len id:Nat} (h:id % 8=0):szId (fiveAt pos len id)=szId id:=by
 unfold fiveAt szId
 split <;> omega
theorem loadInfo_some {t:TypeId} {i:Nat×Bool} (h:loadInfo P t=some i):szOf P t=some i.1∧aggOf P t=some i.2∧(i.2=false→i.1=1):=by
 unfold loadInfo at h
 split at h
 ·rename_i n g hn hg
  split at h
  ·rename_i hc
   injection h with h
   subst h
   exact ⟨hn,hg,fun h=>by rcases hc with hc | hc; simp_all; exact hc⟩
  ·cases h
 ·cases h
theorem fieldInfo_some {t:TypeId} {f:Nat} {i:Nat×Nat×Bool} (h:fieldInfo P t f=some i):fieldOf P t f=some (i.1,i.2.1,i.2.2)∧(i.2.2=false→i.2.1=1):=by
 unfold fieldInfo at h
 split at h
 ·rename_i off n g hf
  split at h
  ·rename_i hc
   injection h with h
   subst h
   exact ⟨hf,fun h=>by rcases hc with hc | hc; simp_all; exact hc⟩
  ·cases h
 ·cases h

theorem bd_of {lo hi:Option Operand} {ds:List DV} (hA:Args w c O a ds (lo.toList++hi.toList)) {p q:Option Int} (hb:bounds lo.isSome hi.isSome ds=some (p,q)):Bd a.eval lo p∧Bd a.eval hi q:=by
 cases lo <;> cases hi
 ·obtain rfl:=hA.zero
  simp only [bounds,Option.isSome_none,Option.some.injEq,Prod.mk.injEq] at hb
  obtain ⟨rfl,rfl⟩:=hb
  exact ⟨.none,.none⟩
 ·rename_i y
  obtain ⟨d,rfl,hd⟩:=hA.one
  cases d <;> simp [bounds] at hb
  obtain ⟨rfl,rfl⟩:=hb
  exact ⟨.none,.some y _ hd.int⟩
 ·rename_i y
  obtain ⟨d,rfl,hd⟩:=Args.one (x:=y) (by simpa using hA)
  cases d <;> simp [bounds] at hb
  obtain ⟨rfl,rfl⟩:=hb
  exact ⟨.some y _ hd.int,.none⟩
 ·rename_i y z
  obtain ⟨d,e,rfl,hd,he⟩:=Args.two (x:=y) (y:=z) (by simpa using hA)
  cases d <;> cases e <;> simp [bounds] at hb
  obtain ⟨rfl,rfl⟩:=hb
  exact ⟨.some y _ hd.int,.some z _ he.int⟩

theorem Args.tail {d:DV} {ds:List DV} {x:Operand} {xs:List Operand} (h:Args w c O a (d :: ds) (x :: xs)):VR w c.B (okb c.ok0 c.B O) O d (a.eval x)∧Args w c O a ds xs :=
 ⟨h.2 0 d x rfl rfl,by simpa using h.1,fun j e q he hq=>h.2 (j+1) e q (by simpa using he) (by simpa using hq)⟩

theorem effP_ok (hm:MR c O ob w) (hF:Fresh c fr) {k:K} {xs:List Operand} (hv:viewK P o=some (k,xs)) {ds:List DV} (hA:Args w c O a ds xs) {d:DV} (he:effP fr k ds ob=some (d,ob')) :
  Out P c fr w O ((execOp a.eval o).run P w) d ob':=by
 unfold viewK at hv
 split at hv
 -- move
 ·rename_i x hop
  injection hv with hv; simp only [Prod.mk.injEq] at hv; obtain ⟨rfl,rfl⟩:=hv
  obtain ⟨dx,rfl,hx⟩:=hA.one
  simp only [effP,Option.some.injEq,Prod.mk.injEq] at he; obtain ⟨rfl,rfl⟩:=he
  exact out_mv hm (.inl hop) hx
 -- assign
 ·rename_i x hop
  split at hv
  ·split at hv
   ·injection hv with hv; simp only [Prod.mk.injEq] at hv; obtain ⟨rfl,rfl⟩:=hv
    obtain ⟨dx,rfl,hx⟩:=hA.one
    simp only [effP,Option.some.injEq,Prod.mk.injEq] at he; obtain ⟨rfl,rfl⟩:=he
    exact out_mv hm (.inr hop) hx
   split at hv
   ·rename_i e sz hes
    simp only [Option.map_eq_some_iff,Prod.mk.injEq] at hv
    obtain ⟨id,hid,rfl,rfl⟩:=hv
    obtain rfl:=hA.zero
    simp only [effP] at he
    split at he
    ·rename_i hfr
     injection he with he; simp only [Prod.mk.injEq] at he; obtain ⟨rfl,rfl⟩:=he
     exact out_newnil hm hF hop (fun v=>rfl) hfr (by have:=idAt_zero hid; omega) (by rw [(idAt_some hid).2]; exact (idAt_some hid).1)
    ·cases he
   ·cases hv
  ·injection hv with hv; simp only [Prod.mk.injEq] at hv; obtain ⟨rfl,rfl⟩:=hv
   obtain ⟨dx,rfl,hx⟩:=hA.one
   simp only [effP,Option.some.injEq,Prod.mk.injEq] at he; obtain ⟨rfl,rfl⟩:=he
   exact out_mv hm (.inr hop) hx
 -- pick
 ·rename_i x y z hop
  injection hv with hv; simp only [Prod.mk.injEq] at hv; obtain ⟨rfl,rfl⟩:=hv
  obtain ⟨dx,dy,dz,rfl,hx,hy,hz⟩:=hA.three
  simp only [effP] at he
  split at he
  ·rename_i heq
   simp only [List.cons.injEq,and_true] at heq
   obtain ⟨rfl,rfl,rfl⟩:=heq
   injection he with he; simp only [Prod.mk.injEq] at he; obtain ⟨rfl,rfl⟩:=he
   exact out_pick hm hop hx hy hz
  ·cases he
 -- binOp
 ·rename_i op t x y yt hop
  split at hv
  ·rename_i g hnil
   injection hv with hv; simp only [Prod.mk.injEq] at hv; obtain ⟨rfl,rfl⟩:=hv
   obtain ⟨dx,rfl,hx⟩:=hA.one
   have hq:y=.const (.slice none 0 0)∧op=(if g then .neq else .eql)∧∃ e,P.underlying t=some (.slice e):=by
    have hs:isSlice P t=true→∃ e,P.underlying t=some (.slice e):=fun h=>by
     unfold isSlice at h
     split at h
     ·exact ⟨_,by assumption⟩
     ·cases h
    unfold viewNil at hnil
    split at hnil
    ·split at hnil
     ·rename_i hst; injection hnil with hnil; subst hnil; exact ⟨rfl,rfl,hs hst⟩
     ·cases hnil
    ·split at hnil
     ·rename_i hst; injection hnil with hnil; subst hnil; exact ⟨rfl,rfl,hs hst⟩
     ·cases hnil
    ·cases hnil
   obtain ⟨rfl,hopg,e,hu⟩:=hq
   simp only [effP] at he
   split at he
   ·injection he with he; simp only [Prod.mk.injEq] at he; obtain ⟨rfl,rfl⟩:=he
    have:=out_eqn (fr:=fr) hm hop hopg hu (fun v=>rfl) ((hx.slice_).2.2 rfl)
    have e1:xor g (Option.isNone (none:Option Addr))=!g:=by cases g <;> rfl
    rw [e1] at this
    exact this
   ·split at he
    ·rename_i es hes
     split at he
     ·cases he
     ·rename_i hne
      injection he with he; simp only [Prod.mk.injEq] at he; obtain ⟨rfl,rfl⟩:=he
      obtain ⟨A,cp,hv,hA'⟩:=elems_ok hm hx hes
      obtain ⟨ad,_,rfl,_⟩:=hA' (by cases es <;> simp_all)
      have:=out_eqn (fr:=fr) hm hop hopg hu (fun v=>rfl) hv
      have e1:xor g (Option.isNone (some ad))=g:=by cases g <;> rfl
      rw [e1] at this
      exact this
    ·cases he
  simp only [Option.map_eq_some_iff,Prod.mk.injEq] at hv
  obtain ⟨k',hk,rfl,rfl⟩:=hv
  obtain ⟨dx,dy,rfl,hx,hy⟩:=hA.two
  have plain:k'=.bin op→Out P c fr w O ((execOp a.eval o).run P w) d ob':=by
   rintro rfl
   simp only [effP,Option.map_eq_some_iff,Prod.mk.injEq] at he
   obtain ⟨d',hd,rfl,rfl⟩:=he
   exact out_bin hm hop hx hy hd
  unfold viewBin at hk
  split at hk
  ·injection hk with hk; exact plain hk.symm
  ·injection hk with hk; exact plain hk.symm
  ·injection hk with hk; exact plain hk.symm
  ·injection hk with hk; exact plain hk.symm
  ·injection hk with hk; exact plain hk.symm
  ·rename_i hu
   have key:∀ g:Bool,op=(if g then .neq else .eql)→k'=.eqb g→Out P c fr w O ((execOp a.eval o).run P w) d ob':=by
    rintro g hopg rfl
    simp only [effP] at he
    split at he
    ·rename_i heq
     simp only [List.cons.injEq,and_true] at heq
     obtain ⟨rfl,rfl⟩:=heq
     injection he with he; simp only [Prod.mk.injEq] at he; obtain ⟨rfl,rfl⟩:=he
     exact out_eqb hm hop hopg hu hx hy
    ·cases he
   split at hk
   ·injection hk with hk; exact key false rfl hk.symm
   ·injection hk with hk; exact key true rfl hk.symm
   ·cases hk
  ·rename_i fs hu
   split at hk
   ·rename_i hst
    have key:∀ g:Bool,op=(if g then .neq else .eql)→k'=.eqs g fs.size→Out P c fr w O ((execOp a.eval o).run P w) d ob':=by
     rintro g hopg rfl
     simp only [effP] at he
     split at he
     ·rename_i heq
      simp only [List.cons.injEq,and_true] at heq
      obtain ⟨rfl,rfl⟩:=heq
      split at he
      ·rename_i hl
       simp only [Option.map_eq_some_iff,Prod.mk.injEq] at he
       obtain ⟨r,hr,rfl,rfl⟩:=he
       exact out_eqs hm hop hopg hst hl.1 hl.2 hx hy hr
      ·cases he
     ·cases he
    split at hk
    ·injection hk with hk; exact key false rfl hk.symm
    ·injection hk with hk; exact key true rfl hk.symm
    ·cases hk
   ·cases hk
  ·cases hk
 -- unOp
 ·rename_i op t x hop
  injection hv with hv; simp only [Prod.mk.injEq] at hv; obtain ⟨rfl,rfl⟩:=hv
  obtain ⟨dx,rfl,hx⟩:=hA.one
  simp only [effP,Option.map_eq_some_iff,Prod.mk.injEq] at he
  obtain ⟨d',hd,rfl,rfl⟩:=he
  exact out_un hm hop hx hd
 -- call
 ·rename_i cl hop
  unfold viewCall at hv
  split at hv
  ·split at hv <;> (injection hv with hv; simp only [Prod.mk.injEq] at hv; obtain ⟨rfl,rfl⟩:=hv; rw [callK_effP] at he; cases he)
  ·split at hv <;> (injection hv with hv; simp only [Prod.mk.injEq] at hv; obtain ⟨rfl,rfl⟩:=hv; simp [effP] at he)
  ·rename_i hcal
   split at hv
   ·rename_i x t hargs htys
    have hcl:cl={ callee:=.builtin .len,args:=#[x],argTypes:=#[t] }:=by
     cases cl; simp only at hcal hargs htys; subst hcal
     congr
     ·apply Array.ext'; exact hargs
     ·apply Array.ext'; exact htys
    rw [hcl] at hop
    split at hv
    ·rename_i e hu
     injection hv with hv; simp only [Prod.mk.injEq] at hv; obtain ⟨rfl,rfl⟩:=hv
     obtain ⟨dx,rfl,hx⟩:=hA.one
     simp only [effP] at he
     split at he
     ·rename_i heq; simp only [List.cons.injEq,and_true] at heq; subst heq
      injection he with he; simp only [Prod.mk.injEq] at he; obtain ⟨rfl,rfl⟩:=he
      obtain ⟨A,cap,hxv⟩:=(hx.slice_).1 _ _ rfl
      exact out_len hm hop hu hxv
     ·rename_i heq; simp only [List.cons.injEq,and_true] at heq; subst heq
      injection he with he; simp only [Prod.mk.injEq] at he; obtain ⟨rfl,rfl⟩:=he
      obtain ⟨A,cap,hxv⟩:=(hx.slice_).2.1 _ _ _ _ rfl
      exact out_len hm hop hu hxv
     ·rename_i heq; simp only [List.cons.injEq,and_true] at heq; subst heq
      injection he with he; simp only [Prod.mk.injEq] at he; obtain ⟨rfl,rfl⟩:=he
      exact out_len hm hop hu ((hx.slice_).2.2 rfl)
     ·cases he
    ·rename_i hu
     injection hv with hv; simp only [Prod.mk.injEq] at hv; obtain ⟨rfl,rfl⟩:=hv
     obtain ⟨dx,rfl,hx⟩:=hA.one
     simp only [effP] at he
     split at he
     ·rename_i heq; simp only [List.cons.injEq,and_true] at heq; subst heq
      injection he with he; simp only [Prod.mk.injEq] at he; obtain ⟨rfl,rfl⟩:=he
      exact out_lens hm hop hu hx
     ·cases he
    ·cases hv
   ·cases hv
  ·rename_i hcal
   split at hv
   ·rename_i x y t u hargs htys
    split at hv
    ·rename_i htu
     subst htu
     have hcl:cl={ callee:=.builtin .append,args:=#[x,y],argTypes:=#[t,t] }:=by
      cases cl; simp only at hcal hargs htys; subst hcal
      congr
      ·apply Array.ext'; exact hargs
      ·apply Array.ext'; exact htys
     rw [hcl] at hop
     split at hv
     ·rename_i e het
      split at hv
      ·rename_i sz zs hz
       simp only [Option.map_eq_some_iff,Prod.mk.injEq] at hv
       obtain ⟨id,hid,rfl,rfl⟩:=hv
       obtain ⟨dx,dy,rfl,hx,hy⟩:=hA.two
       simp only [effP] at he
       split at he
       ·rename_i news hnews
        split at he
        ·rename_i hw
         split at he
         ·split at he
          ·rename_i hc
           injection he with he; simp only [Prod.mk.injEq] at he; obtain ⟨rfl,rfl⟩:=he
           exact out_appNil hm hF hop (elemT_some het) hz hc.1 (by have:=idAt_zero hid; omega) hc.2.1 hx hy hnews hw hc.2.2
          ·cases he
         ·rename_i k n h _
          split at he
          ·rename_i es hl
           split at he
           ·rename_i hc
            obtain ⟨hk7,hsz,hn,rfl,hb⟩:=hc
            injection he with he; simp only [Prod.mk.injEq] at he; obtain ⟨rfl,rfl⟩:=he
            exact out_app hm hF hop (elemT_some het) hz hk7 hsz hx hy hnews hw hl hn hb
           ·split at he
            ·rename_i hc
             obtain ⟨hk7,hsz,hn,hlt,hb⟩:=hc
             split at he
             ·rename_i hin
              injection he with he; simp only [Prod.mk.injEq] at he; obtain ⟨rfl,rfl⟩:=he
              exact out_appIn hm hop (elemT_some het) hz hsz hx hy hnews hw hl hn hlt hin
             ·rename_i hin
              injection he with he; simp only [Prod.mk.injEq] at he; obtain ⟨rfl,rfl⟩:=he
              exact out_appCut hm hF hop (elemT_some het) hz hk7 hsz hx hy hnews hw hl hn hlt (by omega) hb
            ·cases he
          ·cases he
         ·rename_i k n _
          split at he
          ·rename_i es hl
           split at he
           ·rename_i hc
            obtain ⟨hsz,hn,hb⟩:=hc
            injection he with he; simp only [Prod.mk.injEq] at he; obtain ⟨rfl,rfl⟩:=he
            exact out_appCel hm hF hop (elemT_some het) hz hsz hx hy hnews hw hl hn hb
           ·cases he
          ·cases he
         ·cases he
        ·cases he
       ·cases he
      ·cases hv
     ·cases hv
    ·cases hv
   ·cases hv
  ·rename_i hcal
   split at hv
   ·rename_i x y hargs
    injection hv with hv; simp only [Prod.mk.injEq] at hv; obtain ⟨rfl,rfl⟩:=hv
    have hcl:cl={ callee:=.builtin (if true then .max else .min),args:=#[x,y],argTypes:=cl.argTypes }:=by
     cases cl; simp only at hcal hargs; subst hcal
     congr
     apply Array.ext'; exact hargs
    rw [hcl] at hop
    obtain ⟨dx,dy,rfl,hx,hy⟩:=hA.two
    simp only [effP] at he
    split at he
    ·rename_i heq; simp only [List.cons.injEq,and_true] at heq; obtain ⟨rfl,rfl⟩:=heq
     injection he with he; simp only [Prod.mk.injEq] at he; obtain ⟨rfl,rfl⟩:=he
     exact out_mm hm hop hx hy
    ·cases he
   ·cases hv
  ·rename_i hcal
   split at hv
   ·rename_i x y hargs
    injection hv with hv; simp only [Prod.mk.injEq] at hv; obtain ⟨rfl,rfl⟩:=hv
    have hcl:cl={ callee:=.builtin (if false then .max else .min),args:=#[x,y],argTypes:=cl.argTypes }:=by
     cases cl; simp only at hcal hargs; subst hcal
     congr
     apply Array.ext'; exact hargs
    rw [hcl] at hop
    obtain ⟨dx,dy,rfl,hx,hy⟩:=hA.two
    simp only [effP] at he
    split at he
    ·rename_i heq; simp only [List.cons.injEq,and_true] at heq; obtain ⟨rfl,rfl⟩:=heq
     injection he with he; simp only [Prod.mk.injEq] at he; obtain ⟨rfl,rfl⟩:=he
     exact out_mm hm hop hx hy
    ·cases he
   ·cases hv
  ·cases hv
 -- nilCheck
 ·rename_i x hop
  injection hv with hv; simp only [Prod.mk.injEq] at hv; obtain ⟨rfl,rfl⟩:=hv
  obtain ⟨dx,rfl,hx⟩:=hA.one
  simp only [effP] at he
  split at he
  ·rename_i heq; simp only [List.cons.injEq,and_true] at heq; subst heq
   injection he with he; simp only [Prod.mk.injEq] at he; obtain ⟨rfl,rfl⟩:=he
   obtain ⟨ad,_,hxv,_⟩:=hx.adr'
   exact out_chk hm hop hx ⟨ad,hxv⟩
  ·rename_i heq; simp only [List.cons.injEq,and_true] at heq; subst heq
   injection he with he; simp only [Prod.mk.injEq] at he; obtain ⟨rfl,rfl⟩:=he
   obtain ⟨ad,hxv,_⟩:=hx.oad'
   exact out_chk hm hop hx ⟨ad,hxv⟩
  ·cases he
 -- fieldAddr
 ·rename_i t x f hop
  simp only [Option.map_eq_some_iff,Prod.mk.injEq] at hv
  obtain ⟨i,hi,rfl,rfl⟩:=hv
  obtain ⟨h1,h2⟩:=fieldInfo_some hi
  obtain ⟨dx,rfl,hx⟩:=hA.one
  simp only [effP] at he
  split at he
  ·rename_i heq; simp only [List.cons.injEq,and_true] at heq; subst heq
   simp only [Option.map_eq_some_iff,Prod.mk.injEq] at he
   obtain ⟨e,hp,rfl,rfl⟩:=he
   exact out_fld hm hop h1 h2 hx hp
  ·rename_i heq; simp only [List.cons.injEq,and_true] at heq; subst heq
   injection he with he; simp only [Prod.mk.injEq] at he; obtain ⟨rfl,rfl⟩:=he
   exact out_fldO hm hop h1 hx
  ·cases he
 -- field
 ·rename_i t x f hop
  simp only [Option.map_eq_some_iff,Prod.mk.injEq] at hv
  obtain ⟨i,hi,rfl,rfl⟩:=hv
  obtain ⟨h1,h2⟩:=fieldInfo_some hi
  obtain ⟨dx,rfl,hx⟩:=hA.one
  simp only [effP] at he
  split at he
  ·rename_i heq; simp only [List.cons.injEq,and_true] at heq; subst heq
   simp only [Option.map_eq_some_iff,Prod.mk.injEq] at he
   obtain ⟨e,hp,rfl,rfl⟩:=he
   exact out_fldv hm hop h1 h2 hx hp
  ·cases he
 -- indexAddr
 ·rename_i t x y hop
  split at hv
  ·rename_i len sz harr
   injection hv with hv; simp only [Prod.mk.injEq] at hv; obtain ⟨rfl,rfl⟩:=hv
   obtain ⟨e,h1,h2⟩:=arrOf_some harr
   obtain ⟨dx,dy,rfl,hx,hy⟩:=hA.two
   simp only [effP] at he
   split at he
   ·rename_i heq; simp only [List.cons.injEq,and_true] at heq; obtain ⟨rfl,rfl⟩:=heq
    split at he
    ·rename_i hc
     injection he with he; simp only [Prod.mk.injEq] at he; obtain ⟨rfl,rfl⟩:=he
     exact out_idxp hm hop h1 h2 hx hy hc.1 hc.2
    ·cases he
   ·rename_i heq; simp only [List.cons.injEq,and_true] at heq; obtain ⟨rfl,rfl⟩:=heq
    split at he
    ·rename_i hc
     simp only [Option.map_eq_some_iff,Prod.mk.injEq] at he
     obtain ⟨r,hp,rfl,rfl⟩:=he
     exact out_idxpA hm hop h1 h2 hx hy hc.1 hc.2 hp
    ·cases he
   ·rename_i heq; simp only [List.cons.injEq,and_true] at heq; obtain ⟨rfl,rfl⟩:=heq
    split at he
    ·rename_i hc
     simp only [Option.map_eq_some_iff,Prod.mk.injEq] at he
     obtain ⟨r,hp,rfl,rfl⟩:=he
     exact out_idxpQ hm hop h1 h2 hx hy hc hp
    ·cases he
   ·cases he
  ·simp only [Option.map_eq_some_iff,Prod.mk.injEq] at hv
   obtain ⟨⟨e,sz⟩,hi,rfl,rfl⟩:=hv
   obtain ⟨h1,h2⟩:=elemSz_some hi
   obtain ⟨dx,dy,rfl,hx,hy⟩:=hA.two
   simp only [effP] at he
   split at he
   ·rename_i heq; simp only [List.cons.injEq,and_true] at heq; obtain ⟨rfl,rfl⟩:=heq
    split at he
    ·rename_i h0
     split at he
     ·rename_i e' hget
      split at he
      ·rename_i hw
       injection he with he; simp only [Prod.mk.injEq] at he; obtain ⟨rfl,rfl⟩:=he
       exact out_idxa hm hop h1 h2 hx hy h0 hget hw
      ·cases he
     ·cases he
    ·cases he
   ·rename_i heq; simp only [List.cons.injEq,and_true] at heq; obtain ⟨rfl,rfl⟩:=heq
    split at he
    ·rename_i es hes
     split at he
     ·rename_i hc
      injection he with he; simp only [Prod.mk.injEq] at he; obtain ⟨rfl,rfl⟩:=he
      exact out_idxaO hm hop h1 h2 hx hy hes hc.1 hc.2.1 hc.2.2
     ·cases he
    ·cases he
   ·cases he
 -- index
 ·rename_i t x y hop
  split at hv
  ·rename_i hu
   injection hv with hv; simp only [Prod.mk.injEq] at hv; obtain ⟨rfl,rfl⟩:=hv
   obtain ⟨dx,dy,rfl,hx,hy⟩:=hA.two
   simp only [effP] at he
   split at he
   ·rename_i heq; simp only [List.cons.injEq,and_true] at heq; obtain ⟨rfl,rfl⟩:=heq
    split at he
    ·rename_i h0
     simp only [Option.map_eq_some_iff,Prod.mk.injEq] at he
     obtain ⟨b,hb,rfl,rfl⟩:=he
     exact out_idx hm hop hu hx hy h0 hb
    ·cases he
   ·cases he
  ·cases hv
 -- load
 ·rename_i t x hop
  simp only [Option.map_eq_some_iff,Prod.mk.injEq] at hv
  obtain ⟨i,hi,rfl,rfl⟩:=hv
  obtain ⟨h1,h2,h3⟩:=loadInfo_some hi
  obtain ⟨dx,rfl,hx⟩:=hA.one
  simp only [effP] at he
  split at he
  ·rename_i heq; simp only [List.cons.injEq,and_true] at heq; subst heq
   simp only [Option.map_eq_some_iff,Prod.mk.injEq] at he
   obtain ⟨e,hp,rfl,rfl⟩:=he
   rename_i d0
   have hde:e=d0:=by
    split at hp
    ·split at hp
     ·injection hp with hp; exact hp.symm
     ·cases hp
    ·split at hp
     ·cases hp
     ·injection hp with hp; exact hp.symm
   subst hde
   exact out_load hm hop h1 h2 h3 hp hx
  ·rename_i heq; simp only [List.cons.injEq,and_true] at heq; subst heq
   split at he
   ·rename_i es hl
    split at he
    ·rename_i hn
     split at he
     ·rename_i e hget
      simp only [Option.map_eq_some_iff,Prod.mk.injEq] at he
      obtain ⟨e',hp,rfl,rfl⟩:=he
      exact out_loadO hm hop h1 h2 h3 hx hl hn hget hp
     ·cases he
    ·cases he
   ·cases he
  ·cases he
 -- store
 ·rename_i t x y hop
  simp only [Option.map_eq_some_iff,Prod.mk.injEq] at hv
  obtain ⟨n,hn,rfl,rfl⟩:=hv
  obtain ⟨dx,dy,rfl,hx,hy⟩:=hA.two
  simp only [effP] at he
  split at he
  ·rename_i heq; simp only [List.cons.injEq,and_true] at heq; obtain ⟨rfl,rfl⟩:=heq
   split at he
   ·rename_i v' ob1 hs
    split at he
    ·rename_i es hl
     split at he
     ·rename_i hc
      split at he
      ·rename_i e hget
       split at he
       ·rename_i hq
        injection he with he; simp only [Prod.mk.injEq] at he; obtain ⟨rfl,rfl⟩:=he
        exact out_store hm hop hn hx hy hs hl hc.1 hc.2 hget hq
       ·cases he
      ·cases he
     ·cases he
    ·cases he
   ·cases he
  ·cases he
 -- slice
 ·rename_i t x lo hi mx hop
  split at hv
  ·split at hv
   ·rename_i hu
    injection hv with hv; simp only [Prod.mk.injEq] at hv; obtain ⟨rfl,rfl⟩:=hv
    simp only [effP] at he
    split at he
    ·obtain ⟨hx,hA'⟩:=hA.tail
     split at he
     ·rename_i p q hb
      obtain ⟨hb1,hb2⟩:=bd_of hA' hb
      simp only [Option.map_eq_some_iff,Prod.mk.injEq] at he
      obtain ⟨e,hp,rfl,rfl⟩:=he
      exact out_slices hm hop hu hx hb1 hb2 hp
     ·cases he
    ·cases he
   ·rename_i e hu
    simp only [Option.map_eq_some_iff,Prod.mk.injEq] at hv
    obtain ⟨n,hn,rfl,rfl⟩:=hv
    simp only [effP] at he
    split at he
    ·obtain ⟨hx,hA'⟩:=hA.tail
     split at he
     ·rename_i p q hb
      obtain ⟨hb1,hb2⟩:=bd_of hA' hb
      simp only [Option.map_eq_some_iff,Prod.mk.injEq] at he
      obtain ⟨e,hp,rfl,rfl⟩:=he
      exact out_slice hm hop hu hn hx hb1 hb2 hp
     ·cases he
    ·cases he
   ·cases hv
  ·cases hv
 -- makeSlice
 ·rename_i t x y hop
  split at hv
  ·rename_i e het
   split at hv
   ·rename_i sz z hz
    simp only [Option.map_eq_some_iff,Prod.mk.injEq] at hv
    obtain ⟨id,hid,rfl,rfl⟩:=hv
    obtain ⟨dx,dy,rfl,hx,hy⟩:=hA.two
    simp only [effP] at he
    split at he
    ·rename_i heq; simp only [List.cons.injEq,and_true] at heq; obtain ⟨rfl,rfl⟩:=heq
     split at he
     ·rename_i hc
      injection he with he; simp only [Prod.mk.injEq] at he; obtain ⟨rfl,rfl⟩:=he
      exact out_make hm hF hop (elemT_some het) hz hc.1 (by have:=idAt_zero hid; omega) (idAt_some hid).2 hx hy hc.2.1 hc.2.2.1 hc.2.2.2
     ·cases he
    ·cases he
   ·cases hv
  ·cases hv
 -- alloc
 ·rename_i e hop
  split at hv
  ·rename_i sz z hz
   simp only [Option.map_eq_some_iff,Prod.mk.injEq] at hv
   obtain ⟨id,hid,rfl,rfl⟩:=hv
   obtain rfl:=hA.zero
   simp only [effP] at he
   split at he
   ·rename_i hfr
    injection he with he; simp only [Prod.mk.injEq] at he; obtain ⟨rfl,rfl⟩:=he
    exact out_alloc hm hF hop hz hfr (by have:=idAt_zero hid; omega) (idAt_some hid).2
   ·cases he
  ·cases hv
 -- box
 ·rename_i e x hop
  split at hv
  ·rename_i sz hz
   simp only [Option.map_eq_some_iff,Prod.mk.injEq] at hv
   obtain ⟨id,hid,rfl,rfl⟩:=hv
   obtain ⟨dx,rfl,hx⟩:=hA.one
   simp only [effP] at he
   split at he
   ·rename_i v' ob1 hs
    split at he
    ·rename_i hc
     injection he with he; simp only [Prod.mk.injEq] at he; obtain ⟨rfl,rfl⟩:=he
     exact out_box hm hF hop hx hs hc.1 (by have:=idAt_zero hid; omega) hc.2 (by rw [(idAt_some hid).2]; exact (idAt_some hid).1)
    ·cases he
   ·cases he
  ·cases hv
 -- build
 ·rename_i t parts hop
  split at hv
  ·rename_i hfs
   split at hv
   ·rename_i sz zs hz
    simp only [Option.map_eq_some_iff,Prod.mk.injEq] at hv
    obtain ⟨ps,hps,rfl,rfl⟩:=hv
    simp only [effP] at he
    split at he
    ·rename_i vs ob1 hs
     simp only [Option.map_eq_some_iff,Prod.mk.injEq] at he
     obtain ⟨cs,hf,rfl,rfl⟩:=he
     exact out_build hm hop hz hfs hps (by rw [hA.1]; simp) (fun j d q hd hq=>hA.2 j d q.2 hd (by simp [List.getElem?_map,hq])) hs hf
    ·cases he
   ·cases hv
  ·cases hv
 -- buildSlice
 ·rename_i t len parts hop
  split at hv
  ·rename_i e het
   split at hv
   ·rename_i sz z hz
    split at hv
    ·rename_i hlen
     simp only [Option.map_eq_some_iff,Prod.mk.injEq] at hv
     obtain ⟨id,hid,rfl,rfl⟩:=hv
     simp only [effP] at he
     split at he
     ·rename_i vs ob1 hs
      split at he
      ·rename_i hfr
       simp only [Option.map_eq_some_iff,Prod.mk.injEq] at he
       obtain ⟨es,hf,rfl,rfl⟩:=he
       exact out_bslice hm hF hop (elemT_some het) hz hlen hfr.1 ((fiveAt_sz (idAt_zero hid)).trans (idAt_some hid).2) (by rw [hA.1]; simp) (fun j d q hd hq=>hA.2 j d q.2 hd (by simp [List.getElem?_map,hq])) hs hf hfr.2
      ·cases he
     ·cases he
    ·cases hv
   ·cases hv
  ·cases hv
 -- convert
 ·rename_i s t x hop
  split at hv
  ·rename_i d0 hd0
   simp only [Option.map_eq_some_iff,Prod.mk.injEq] at hv
   obtain ⟨k',hk,rfl,rfl⟩:=hv
   obtain ⟨dx,rfl,hx⟩:=hA.one
   unfold viewConv at hk
   split at hk
   ·rename_i hs ht
    injection hk with hk; subst hk
    simp only [effP] at he
    split at he
    ·rename_i heq; simp only [List.cons.injEq,and_true] at heq; subst heq
     injection he with he; simp only [Prod.mk.injEq] at he; obtain ⟨rfl,rfl⟩:=he
     exact out_b2i hm hop hs ht hx
    ·cases he
   ·rename_i hs ht
    injection hk with hk; subst hk
    simp only [effP] at he
    split at he
    ·rename_i heq; simp only [List.cons.injEq,and_true] at heq; subst heq
     injection he with he; simp only [Prod.mk.injEq] at he; obtain ⟨rfl,rfl⟩:=he
     exact out_i2b hm hop hs ht hx
    ·cases he
   ·rename_i hs ht
    injection hk with hk; subst hk
    simp only [effP] at he
    split at he
    ·rename_i heq; simp only [List.cons.injEq,and_true] at heq; subst heq
     injection he with he; simp only [Prod.mk.injEq] at he; obtain ⟨rfl,rfl⟩:=he
     exact out_i2i hm hop hs ht hx
    ·cases he
   ·rename_i hs ht
    injection hk with hk; subst hk
    simp only [effP] at he
    split at he
    ·rename_i heq; simp only [List.cons.injEq,and_true] at heq; subst heq
     injection he with he; simp only [Prod.mk.injEq] at he; obtain ⟨rfl,rfl⟩:=he
     exact out_s2s hm hop hs ht hx
    ·cases he
   ·rename_i hs ht
    injection hk with hk; subst hk
    simp only [effP] at he
    split at he
    ·rename_i heq; simp only [List.cons.injEq,and_true] at heq; subst heq
     injection he with he; simp only [Prod.mk.injEq] at he; obtain ⟨rfl,rfl⟩:=he
     exact out_i2r hm hop hs ht hx
    ·cases he
   ·rename_i hs ht
    injection hk with hk; subst hk
    simp only [effP] at he
    split at he
    ·rename_i heq; simp only [List.cons.injEq,and_true] at heq; subst heq
     split at he
     ·rename_i hc
      injection he with he; simp only [Prod.mk.injEq] at he; obtain ⟨rfl,rfl⟩:=he
      exact out_r2s hm hop hs ht hc.1 hc.2 hx
     ·cases he
    ·cases he
   ·rename_i hs ht
    injection hk with hk; subst hk
    simp only [effP] at he
    split at he
    ·rename_i heq; simp only [List.cons.injEq,and_true] at heq; subst heq
     injection he with he; simp only [Prod.mk.injEq] at he; obtain ⟨rfl,rfl⟩:=he
     exact out_i2q hm hop hs ht hx
    ·cases he
   ·rename_i hs ht
    injection hk with hk; subst hk
    simp only [effP] at he
    split at he
    ·rename_i heq; simp only [List.cons.injEq,and_true] at heq; subst heq
     injection he with he; simp only [Prod.mk.injEq] at he; obtain ⟨rfl,rfl⟩:=he
     exact out_q2i hm hop hs ht hx
    ·cases he
   ·rename_i hs ht
    injection hk with hk; subst hk
    simp only [effP] at he
    split at he
    ·rename_i heq; simp only [List.cons.injEq,and_true] at heq; subst heq
     injection he with he; simp only [Prod.mk.injEq] at he; obtain ⟨rfl,rfl⟩:=he
     exact out_q2q hm hop hs ht hx
    ·cases he
   ·rename_i hs ht
    split at hk
    ·rename_i hu
     injection hk with hk; subst hk
     simp only [effP] at he
     cases hes:elems ob dx with
     | none=>rw [hes] at he; cases he
     | some es =>
      rw [hes] at he
      simp only [b2sO,Option.map_eq_some_iff,Prod.mk.injEq] at he
      obtain ⟨l,hl,rfl,rfl⟩:=he
      exact out_b2s hm hop hs hu ht hx hes hl
    ·cases hk
   ·cases hk
  ·cases hv
 -- extract
 ·rename_i x j hop
  injection hv with hv; simp only [Prod.mk.injEq] at hv; obtain ⟨rfl,rfl⟩:=hv
  obtain ⟨dx,rfl,hx⟩:=hA.one
  simp only [effP] at he
  split at he
  ·rename_i heq; simp only [List.cons.injEq,and_true] at heq; subst heq
   simp only [Option.map_eq_some_iff,Prod.mk.injEq] at he
   obtain ⟨e,hp,rfl,rfl⟩:=he
   exact out_ext hm hop hx hp
  ·cases he
 -- makeFunc
 ·rename_i f first xs hop
  split at hv
  ·rename_i hfirst
   injection hv with hv; simp only [Prod.mk.injEq] at hv; obtain ⟨rfl,rfl⟩:=hv
   have h0:first=#[]:=by apply Array.ext'; exact hfirst
   subst h0
   simp only [effP] at he
   split at he
   ·rename_i hc
    injection he with he; simp only [Prod.mk.injEq] at he; obtain ⟨rfl,rfl⟩:=he
    have e0:=mkNo_0 f
    unfold fnIn at hc
    rw [if_neg e0.1] at hc
    rw [if_neg e0.1,e0.2]
    exact out_mkfn hm hop (by rw [hA.1]; simp) hA.2 hc
   ·cases he
  ·rename_i y hfirst
   split at hv
   rotate_left
   ·cases hv
   rename_i hxs
   injection hv with hv; simp only [Prod.mk.injEq] at hv; obtain ⟨rfl,rfl⟩:=hv
   have h0:xs=#[]:=by simpa using hxs
   have h1:first=#[y]:=by apply Array.ext'; exact hfirst
   subst h0; subst h1
   simp only [effP] at he
   split at he
   ·rename_i hc
    injection he with he; simp only [Prod.mk.injEq] at he; obtain ⟨rfl,rfl⟩:=he
    have e1:=mkNo_1 f
    unfold fnIn at hc
    rw [if_pos e1.1] at hc
    rw [if_pos e1.1,e1.2]
    split at hc
    ·rename_i cs0
     exact out_mkbd hm hop (hA.2 0 _ y rfl rfl) hc
    ·simp [capL,capArg,DV.cell] at hc
   ·cases he
  ·cases hv
 ·cases hv
end
end Go.Lg

namespace Go.Lg
open Go.RowKit
variable [GL]
set_option linter.unusedVariables false

def Opx (x:Option Nat) (N:Nat):Bool:=match x with | some d=>decide (d < N) && decide (d < 1048576) | none=>true

/-- The fence of a frame: all is let in; 'r': the round that it is of. -/
def Wd (r:Option Nat):Fence:={ fn:=fun _=>True,depth:=none,alive:=false,round:=r }
theorem wd_calls {P:Program} {r:Option Nat} {m f:Nat} {vs:Array Value} {w:World} {R:Ending→World→Prop} (h:Calls P f vs w R):CallsIn (Wd r) m P f vs w R:=by
 have h0:CallsIn Fence.wide m P f vs w R:=callsIn_wide.2 h
 cases r with
 | none=>exact h0
 | some l=>exact h0
theorem viewK_nd {P:Program} {o:Oper} {p:K×List Operand} (h:viewK P o=some p) (c:Call):o.op≠.defer c:=by
 intro hc
 simp only [viewK,hc] at h
 cases h

/-- What a range over a function leaves among a frame's deferred calls: marks of blocks that hold none. -/
def markD (D:Nat):Deferred:={ target:=.collected D,args:=#[] }
def Dfs (B:Nat) (w:World) (ds:List Deferred):Prop:=∃ Ds:List Nat,ds=Ds.map markD∧Ds.Nodup∧∀ D∈Ds,B≤D∧w.heap[D]?=some (.deferred (some []))
theorem Dfs.nil (B:Nat) (w:World):Dfs B w []:=⟨[],rfl,.nil,fun D h=>by cases h⟩
/-- A block that holds no cells is nobody's. -/
def nocells:Obj→Bool
 | .cells ..=>false
 | _=>true
theorem okb_no {c:Cx} {O:OM} {ob:OB} {w:World} (hm:MR c O ob w) {D:Nat} {o:Obj} (hB:c.B≤D) (h:w.heap[D]?=some o) (ho:nocells o=true):okb c.ok0 c.B O D∧D < w.heap.size:=by
 refine ⟨⟨fun h=>by omega,fun k p hk hg=>?_⟩,(Array.getElem?_eq_some_iff.1 h).1⟩
 obtain ⟨es,_,hor⟩:=hm.get' hk
 obtain ⟨xs,hr,_⟩:=hor.row
 rcases hr.2 with ⟨h0,_⟩ | ⟨g,cp,cur,hv,h1,h2,h3⟩
 ·rw [h0] at hg; cases hg
 ·rw [hv] at hg
  simp only [Value.ownBlock,Option.some.injEq] at hg
  subst hg
  rw [h] at h2
  injection h2 with h2
  subst h2
  cases ho
theorem Dfs.tr {c:Cx} {O O':OM} {ob:OB} {w w':World} {N:Nat→Prop} {ds:List Deferred} (hm:MR c O ob w) (h:Dfs c.B w ds) (t:Tr c.ok0 c.B N w O w' O'):Dfs c.B w' ds:=by
 obtain ⟨Ds,h1,h2,h3⟩:=h
 refine ⟨Ds,h1,h2,fun D hD=>⟨(h3 D hD).1,?_⟩⟩
 obtain ⟨h4,h5⟩:=h3 D hD
 obtain ⟨h6,h7⟩:=okb_no hm h4 h5 rfl
 rw [t.heap D h6 h7]
 exact h5

/-- The state of a frame,said. -/
def St (c:Cx) (N:Nat) (S:LS) (a:Act) (w:World):Prop :=
 ∃ O,MR c O S.ob w∧SR w c.B (okb c.ok0 c.B O) O S.sl a∧Dfs c.B w a.defers∧a.tmps.size=N

def hasBody (P:Program) (f:FuncId):Bool:=match P.funcs[f]? with
 | some fn => fn.body.isSome && !(fn.name == "runtime.NumGoroutine")
 | none=>false

/-- What is handed over is what it was. -/
def DV.ung:DV→DV
 | .giv k n=>.own k n 0 n
 | .ref .nil=>.nil
 | d=>d
theorem VR.ung {w:World} {B:Nat} {ok:OkT} {O:OM} {d:DV} {v:Value} (h:VR w B ok O d v):d.ung=d:=by
 cases d with
 | giv k n=>cases h; rename_i h; cases h
 | ref c=>cases h; rename_i h; cases h
 | _=>rfl
theorem VR.notgiv {w:World} {B:Nat} {ok:OkT} {O:OM} {d:DV} {v:Value} (h:VR w B ok O d v) (k n:Nat):d≠.giv k n:=by
 rintro rfl
 cases h; rename_i h; cases h
theorem givKs_nil {ds:List DV} (h:∀ d∈ds,∀ k n,d≠.giv k n):givKs ds=[]:=by
 induction ds with
 | nil=>rfl
 | cons d ds ih =>
  have h1:=ih (fun d hd=>h d (List.mem_cons_of_mem _ hd))
  have h0:=h d (List.mem_cons_self ..)
  cases d with
  | giv k n=>exact absurd rfl (h0 k n)
  | _=>exact h1
theorem givAt_len (ms:List Nat):∀ (ds:List DV) (j:Nat),(givAt ms j ds).length=ds.length
 | [],_=>rfl
 | d :: ds,j=>by simp [givAt,givAt_len ms ds (j+1)]
theorem givAt_get (ms:List Nat):∀ (ds:List DV) (j i:Nat) (e:DV),(givAt ms j ds)[i]?=some e→∃ d,ds[i]?=some d∧(e=d∨e=d.toGiv)
 | [],j,i,e,h=>by simp [givAt] at h
 | d :: ds,j,i,e,h=>by
  cases i with
  | zero =>
   simp only [givAt,List.getElem?_cons_zero,Option.some.injEq] at h
   refine ⟨d,rfl,?_⟩
   split at h
   ·exact .inr h.symm
   ·exact .inl h.symm
  | succ i =>
   simp only [givAt,List.getElem?_cons_succ] at h
   exact givAt_get ms ds (j+1) i e h
theorem VR.toGiv {w:World} {B:Nat} {ok:OkT} {O:OM} {d:DV} {v:Value} (h:VR w B ok O d v):VR w B ok O d.toGiv.ung v:=by
 cases d with
 | own k n lo hi =>
  simp only [DV.toGiv]
  split
  ·rename_i hc
   obtain ⟨rfl,rfl⟩:=hc
   exact h
  ·exact .dead v
 | nil=>exact h
 | _=>exact .dead v
/-- A callee is as it is said to be,wherever it is called. -/
def CallOk (P:Program) (Γ:Fns):Prop:=∀ (c:Cx) (fr:Nat→Bool) (w:World) (O:OM) (ob ob':OB) (f id:Nat) (vs:Array Value) (ds:List DV) (d:DV),MR c O ob w→Fresh c fr→ds.length=vs.size →
 (∀ (j:Nat) (d:DV) (v:Value),ds[j]?=some d→vs[j]?=some v→VR w c.B (okb c.ok0 c.B O) O d.ung v)→(∀ k∈givKs ds,k % 8=6→∀ i,fr i=true→i % 8=6)→callD Γ fr f id ds ob=some (d,ob')→hasBody P f=true ∧
 Calls P f vs w fun e w'=>∃ v O',e=.returned v∧MR c O' ob' w'∧VR w' c.B (okb c.ok0 c.B O') O' d v∧Tr c.ok0 c.B (fun id=>fr id=true) w O w' O'

section
variable {P:Program} {Γ:Fns} {c:Cx} {N:Nat}

theorem getD_put (a:Act) (d t:Nat) (v:Value) (hd:d < a.tmps.size):(a.put (some d) v).tmps.getD t undef=if t=d then v else a.tmps.getD t undef:=by
 simp only [Act.put,Array.getD_eq_getD_getElem?,Array.getElem?_setIfInBounds]
 by_cases h:d=t
 ·subst h; simp [hd]
 ·simp [h,Ne.symm h]

theorem mentions_of {e:Env} {id:Nat} (h:Env.mentions id e=false) (t:Nat):(look e t).mentions id=false:=by
 induction e with
 | nil=>rfl
 | cons p r ih =>
  obtain ⟨k,d⟩:=p
  simp only [Env.mentions,List.any_cons,Bool.or_eq_false_iff] at h
  simp only [look]
  split
  ·exact h.1
  ·exact ih (by simpa [Env.mentions] using h.2)

theorem SR.put {w:World} {B:Nat} {ok:OkT} {O:OM} {e:Env} {a:Act} (h:SR w B ok O e a) {d:Option Nat} {dv:DV} {v:Value} (hv:VR w B ok O dv v) (hd:∀ x,d=some x→x < a.tmps.size∧x < 1048576) :
  SR w B ok O (putD e d dv) (a.put d v):=by
 cases d with
 | none=>exact h
 | some x =>
  intro t
  obtain ⟨h1,h2⟩:=hd x rfl
  show VR w B ok O (look (Lg.put e x dv) t) (tval (a.put (some x) v) t)
  have e:tval (a.put (some x) v) t=if t=x then v else tval a t:=by
   by_cases ht:t < 1048576
   ·rw [tval_lt _ ht,tval_lt _ ht,getD_put a x t v h1]
   ·unfold tval
    rw [if_neg ht,if_neg ht,if_neg (by omega)]
  rw [look_put,e]
  split
  ·exact hv
  ·exact h t

theorem put_size (a:Act) (d:Option Nat) (v:Value):(a.put d v).tmps.size=a.tmps.size:=by cases d <;> simp [Act.put]
theorem put_defers (a:Act) (d:Option Nat) (v:Value):(a.put d v).defers=a.defers:=by cases d <;> rfl

theorem CallOk.plain (hΓ:CallOk P Γ) (c:Cx) (fr:Nat→Bool) (w:World) (O:OM) (ob ob':OB) (f id:Nat) (vs:Array Value) (ds:List DV) (d:DV) (hm:MR c O ob w) (hf:Fresh c fr) (hl:ds.length=vs.size)
  (hv:∀ (j:Nat) (d:DV) (v:Value),ds[j]?=some d→vs[j]?=some v→VR w c.B (okb c.ok0 c.B O) O d v) (he:callD Γ fr f id ds ob=some (d,ob')):hasBody P f=true ∧
  Calls P f vs w fun e w'=>∃ v O',e=.returned v∧MR c O' ob' w'∧VR w' c.B (okb c.ok0 c.B O') O' d v∧Tr c.ok0 c.B (fun id=>fr id=true) w O w' O':=by
 have hg:∀ x∈ds,∀ k n,x≠.giv k n:=fun x hx k n=>by
  obtain ⟨j,hj⟩:=List.mem_iff_getElem?.1 hx
  have hj2:j < vs.size:=by rw [← hl]; exact (List.getElem?_eq_some_iff.1 hj).1
  exact (hv j x vs[j] hj (by simp [hj2])).notgiv k n
 refine hΓ c fr w O ob ob' f id vs ds d hm hf hl (fun j d v hd hv'=>?_) (fun k hk=>?_) he
 ·have:=hv j d v hd hv'
  rw [this.ung]; exact this
 ·rw [givKs_nil hg] at hk; cases hk
theorem viewBin_call {op:BinOp} {t f id:Nat}:viewBin P op t≠some (.call f id):=by
 intro h
 unfold viewBin at h
 split at h <;> try (cases h; done)
 ·split at h <;> cases h
 ·split at h
  ·split at h <;> cases h
  ·cases h
theorem viewBin_callg {op:BinOp} {t f id:Nat}:viewBin P op t≠some (.callg f id):=by
 intro h
 unfold viewBin at h
 split at h <;> try (cases h; done)
 ·split at h <;> cases h
 ·split at h
  ·split at h <;> cases h
  ·cases h
theorem viewBin_callm {op:BinOp} {t f id:Nat} {ms:List Nat}:viewBin P op t≠some (.callm f ms id):=by
 intro h
 unfold viewBin at h
 split at h <;> try (cases h; done)
 ·split at h <;> cases h
 ·split at h
  ·split at h <;> cases h
  ·cases h
theorem viewBin_calld {op:BinOp} {t id:Nat}:viewBin P op t≠some (.calld id):=by
 intro h
 unfold viewBin at h
 split at h <;> try (cases h; done)
 ·split at h <;> cases h
 ·split at h
  ·split at h <;> cases h
  ·cases h
theorem viewConv_calld {s t d id:Nat}:viewConv P s t d≠some (.calld id):=by
 intro h
 unfold viewConv at h
 split at h <;> first | (cases h; done) | (split at h <;> cases h)
theorem viewConv_call {s t d f id:Nat}:viewConv P s t d≠some (.call f id):=by
 intro h
 unfold viewConv at h
 split at h <;> first | (cases h; done) | (split at h <;> cases h)
theorem viewConv_callg {s t d f id:Nat}:viewConv P s t d≠some (.callg f id):=by
 intro h
 unfold viewConv at h
 split at h <;> first | (cases h; done) | (split at h <;> cases h)
theorem viewConv_callm {s t d f id:Nat} {ms:List Nat}:viewConv P s t d≠some (.callm f ms id):=by
 intro h
 unfold viewConv at h
 split at h <;> first | (cases h; done) | (split at h <;> cases h)
theorem viewK_call {o:Oper} {f id:Nat} {xs:List Operand} (hv:viewK P o=some (.call f id,xs)):∃ cl,o.op=.call cl∧cl.callee=.value (.func f)∧xs=cl.args.toList:=by
 cases hop:o.op with
 | call cl =>
  refine ⟨cl,rfl,?_⟩
  simp only [viewK,hop,viewCall] at hv
  split at hv
  ·rename_i g hcal
   split at hv
   ·injection hv with hv; simp only [Prod.mk.injEq] at hv; obtain ⟨h1,rfl⟩:=hv; have:=callK_call h1; subst this; exact ⟨hcal,rfl⟩
   ·injection hv with hv; simp only [Prod.mk.injEq] at hv; obtain ⟨h1,rfl⟩:=hv; have:=callK_call h1; subst this; exact ⟨hcal,rfl⟩
  ·repeat' (first | (simp at hv; done) | split at hv)
  ·repeat' (first | (simp at hv; done) | split at hv)
  ·repeat' (first | (simp at hv; done) | split at hv)
  ·repeat' (first | (simp at hv; done) | split at hv)
  ·repeat' (first | (simp at hv; done) | split at hv)
  ·cases hv
 | binOp op t x y yt =>
  simp only [viewK,hop] at hv
  split at hv
  ·simp at hv
  simp only [Option.map_eq_some_iff,Prod.mk.injEq] at hv
  obtain ⟨k',hk,rfl,_⟩:=hv
  exact absurd hk viewBin_call
 | convert s t x =>
  simp only [viewK,hop] at hv
  split at hv
  ·simp only [Option.map_eq_some_iff,Prod.mk.injEq] at hv
   obtain ⟨k',hk,rfl,_⟩:=hv
   exact absurd hk viewConv_call
  ·cases hv
 | makeFunc fn first cap =>
  exfalso
  cases fn <;> simp only [viewK,hop] at hv <;> repeat' (first | (simp at hv; done) | split at hv)
 | _ =>
  exfalso
  simp only [viewK,hop] at hv
  repeat' (first | (simp at hv; done) | split at hv)

theorem viewK_callg {o:Oper} {f id:Nat} {xs:List Operand} (hv:viewK P o=some (.callg f id,xs)):∃ cl,o.op=.call cl∧cl.callee=.value (.func f)∧xs=cl.args.toList:=by
 cases hop:o.op with
 | call cl =>
  refine ⟨cl,rfl,?_⟩
  simp only [viewK,hop,viewCall] at hv
  split at hv
  ·rename_i g hcal
   split at hv
   ·injection hv with hv; simp only [Prod.mk.injEq] at hv; obtain ⟨h1,rfl⟩:=hv; have:=callK_callg h1; subst this; exact ⟨hcal,rfl⟩
   ·injection hv with hv; simp only [Prod.mk.injEq] at hv; obtain ⟨h1,rfl⟩:=hv; have:=callK_callg h1; subst this; exact ⟨hcal,rfl⟩
  ·repeat' (first | (simp at hv; done) | split at hv)
  ·repeat' (first | (simp at hv; done) | split at hv)
  ·repeat' (first | (simp at hv; done) | split at hv)
  ·repeat' (first | (simp at hv; done) | split at hv)
  ·repeat' (first | (simp at hv; done) | split at hv)
  ·cases hv
 | binOp op t x y yt =>
  simp only [viewK,hop] at hv
  split at hv
  ·simp at hv
  simp only [Option.map_eq_some_iff,Prod.mk.injEq] at hv
  obtain ⟨k',hk,rfl,_⟩:=hv
  exact absurd hk viewBin_callg
 | convert s t x =>
  simp only [viewK,hop] at hv
  split at hv
  ·simp only [Option.map_eq_some_iff,Prod.mk.injEq] at hv
   obtain ⟨k',hk,rfl,_⟩:=hv
   exact absurd hk viewConv_callg
  ·cases hv
 | makeFunc fn first cap =>
  exfalso
  cases fn <;> simp only [viewK,hop] at hv <;> repeat' (first | (simp at hv; done) | split at hv)
 | _ =>
  exfalso
  simp only [viewK,hop] at hv
  repeat' (first | (simp at hv; done) | split at hv)

theorem viewK_callm {o:Oper} {f id:Nat} {ms:List Nat} {xs:List Operand} (hv:viewK P o=some (.callm f ms id,xs)):∃ cl,o.op=.call cl∧cl.callee=.value (.func f)∧xs=cl.args.toList:=by
 cases hop:o.op with
 | call cl =>
  refine ⟨cl,rfl,?_⟩
  simp only [viewK,hop,viewCall] at hv
  split at hv
  ·rename_i g hcal
   split at hv
   ·injection hv with hv; simp only [Prod.mk.injEq] at hv; obtain ⟨h1,rfl⟩:=hv; have:=callK_callm h1; subst this; exact ⟨hcal,rfl⟩
   ·injection hv with hv; simp only [Prod.mk.injEq] at hv; obtain ⟨h1,rfl⟩:=hv; have:=callK_callm h1; subst this; exact ⟨hcal,rfl⟩
  ·repeat' (first | (simp at hv; done) | split at hv)
  ·repeat' (first | (simp at hv; done) | split at hv)
  ·repeat' (first | (simp at hv; done) | split at hv)
  ·repeat' (first | (simp at hv; done) | split at hv)
  ·repeat' (first | (simp at hv; done) | split at hv)
  ·cases hv
 | binOp op t x y yt =>
  simp only [viewK,hop] at hv
  split at hv
  ·simp at hv
  simp only [Option.map_eq_some_iff,Prod.mk.injEq] at hv
  obtain ⟨k',hk,rfl,_⟩:=hv
  exact absurd hk viewBin_callm
 | convert s t x =>
  simp only [viewK,hop] at hv
  split at hv
  ·simp only [Option.map_eq_some_iff,Prod.mk.injEq] at hv
   obtain ⟨k',hk,rfl,_⟩:=hv
   exact absurd hk viewConv_callm
  ·cases hv
 | makeFunc fn first cap =>
  exfalso
  cases fn <;> simp only [viewK,hop] at hv <;> repeat' (first | (simp at hv; done) | split at hv)
 | _ =>
  exfalso
  simp only [viewK,hop] at hv
  repeat' (first | (simp at hv; done) | split at hv)

theorem viewK_calld {o:Oper} {id:Nat} {xs:List Operand} (hv:viewK P o=some (.calld id,xs)):∃ cl t,o.op=.call cl∧cl.callee=.value (.tmp t)∧xs=.tmp t :: cl.args.toList:=by
 cases hop:o.op with
 | call cl =>
  simp only [viewK,hop,viewCall] at hv
  split at hv
  ·split at hv <;> (injection hv with hv; simp only [Prod.mk.injEq] at hv; exact absurd hv.1 callK_calld)
  ·rename_i t hcal
   split at hv
   ·injection hv with hv; simp only [Prod.mk.injEq,Lg.K.calld.injEq] at hv; obtain ⟨_,rfl⟩:=hv; exact ⟨cl,t,rfl,hcal,rfl⟩
   ·injection hv with hv; simp only [Prod.mk.injEq,Lg.K.calld.injEq] at hv; obtain ⟨_,rfl⟩:=hv; exact ⟨cl,t,rfl,hcal,rfl⟩
  ·repeat' (first | (simp at hv; done) | split at hv)
  ·repeat' (first | (simp at hv; done) | split at hv)
  ·repeat' (first | (simp at hv; done) | split at hv)
  ·repeat' (first | (simp at hv; done) | split at hv)
  ·cases hv
 | binOp op t x y yt =>
  simp only [viewK,hop] at hv
  split at hv
  ·simp at hv
  simp only [Option.map_eq_some_iff,Prod.mk.injEq] at hv
  obtain ⟨k',hk,rfl,_⟩:=hv
  exact absurd hk viewBin_calld
 | convert s t x =>
  simp only [viewK,hop] at hv
  split at hv
  ·simp only [Option.map_eq_some_iff,Prod.mk.injEq] at hv
   obtain ⟨k',hk,rfl,_⟩:=hv
   exact absurd hk viewConv_calld
  ·cases hv
 | makeFunc fn first cap =>
  exfalso
  cases fn <;> simp only [viewK,hop] at hv <;> repeat' (first | (simp at hv; done) | split at hv)
 | _ =>
  exfalso
  simp only [viewK,hop] at hv
  repeat' (first | (simp at hv; done) | split at hv)

/-- What is given up,and handed over. -/
theorem give_ok {w:World}:∀ (ds:List DV) (vs:List Value) {O:OM} {ob ob1:OB} {zs:List DV},MR c O ob w→ds.length=vs.length →
  (∀ (j:Nat) (d:DV) (v:Value),ds[j]?=some d→vs[j]?=some v→VR w c.B (okb c.ok0 c.B O) O d v)→giveL ob ds=some (zs,ob1) →
  ∃ O1,MR c O1 ob1 w∧Tr c.ok0 c.B (fun _=>False) w O w O1∧zs.length=ds.length∧∀ (j:Nat) (d:DV) (v:Value),zs[j]?=some d→vs[j]?=some v→VR w c.B (okb c.ok0 c.B O1) O1 d v
 | [],vs,O,ob,ob1,zs,hm,hl,hv,hg=>by
  simp only [giveL,Option.some.injEq,Prod.mk.injEq] at hg
  obtain ⟨rfl,rfl⟩:=hg
  exact ⟨O,hm,Tr.refl _ _ _ _ _,rfl,fun j d v hd _=>by simp at hd⟩
 | d :: ds,[],O,ob,ob1,zs,hm,hl,hv,hg=>by simp at hl
 | d :: ds,v :: vs,O,ob,ob1,zs,hm,hl,hv,hg=>by
  have h0:=hv 0 d v rfl rfl
  by_cases hown:∃ k n lo hi,d=.own k n lo hi
  ·obtain ⟨k,n,lo,hi,rfl⟩:=hown
   simp only [giveL] at hg
   split at hg
   ·rename_i e ob2 hs
    split at hg
    ·rename_i es ob3 hg2
     simp only [Option.some.injEq,Prod.mk.injEq] at hg
     obtain ⟨rfl,rfl⟩:=hg
     obtain ⟨O2,hm2,ht2,_,hc,_,_⟩:=settle_ok hm h0 hs
     have hc:CR w c.B (okb c.ok0 c.B O2) e v:=by
      rcases hc with ⟨cs,rfl⟩ | hc
      ·simp only [settle,elems] at hs
       repeat' (first | (simp at hs; done) | split at hs)
      ·exact hc
     obtain ⟨O3,hm3,ht3,hl3,hv3⟩:=give_ok ds vs hm2 (by simpa using hl) (fun j d v hd hv'=>(hv (j+1) d v (by simpa using hd) (by simpa using hv')).tr ht2 (fun _ h=>absurd h id)) hg2
     refine ⟨O3,hm3,(ht2.trans ht3).mono fun id hid=>by rcases hid with h | h <;> exact h,by simp [hl3],fun j d v' hd hv'=>?_⟩
     cases j with
     | zero =>
      simp at hd hv'
      subst hd; subst hv'
      exact .cr _ _ (hc.tr ht3)
     | succ j=>exact hv3 j d v' (by simpa using hd) (by simpa using hv')
    ·cases hg
   ·cases hg
  ·have hg':(match giveL ob ds with
     | some (es,ob2)=>some (d :: es,ob2)
     | none=>none)=some (zs,ob1):=by
    cases d <;> first | exact hg | exact absurd ⟨_,_,_,_,rfl⟩ hown
   split at hg'
   ·rename_i es ob2 hg2
    simp only [Option.some.injEq,Prod.mk.injEq] at hg'
    obtain ⟨rfl,rfl⟩:=hg'
    obtain ⟨O3,hm3,ht3,hl3,hv3⟩:=give_ok ds vs hm (by simpa using hl) (fun j d v hd hv'=>hv (j+1) d v (by simpa using hd) (by simpa using hv')) hg2
    refine ⟨O3,hm3,ht3,by simp [hl3],fun j d' v' hd hv'=>?_⟩
    cases j with
    | zero =>
     simp at hd hv'
     subst hd; subst hv'
     exact h0.tr ht3 (fun _ h=>absurd h id)
    | succ j=>exact hv3 j d' v' (by simpa using hd) (by simpa using hv')
   ·cases hg'

/-- One operation,carried out. -/
theorem step_run (hΓ:CallOk P Γ) (hF:∀ r∈c.refs,6≤r.1 % 8) {o:Oper} {k:K} {xs:List Operand} {ys:List Opd} (hv:viewK P o=some (k,xs)) (hys:viewOpds xs=some ys) (hN:Opx o.dst N=true) {S:LS} {a:Act} {w:World} (hs:St c N S a w)
  {d:DV} {ob':OB} (he:eff Γ (fun id=>!(id % 8 == 7) && !Env.mentions id S.sl) k (ys.map S.get) S.ob=some (d,ob')) {KK:Act→World→Prop} {Q:Exit→Act→World→Prop}
  (hK:∀ v w',St c N { sl:=putD S.sl o.dst d,ob:=ob' } (a.put o.dst v) w'→KK (a.put o.dst v) w') {r:Option Nat} {m:Nat}:o.wpIn (Wd r) m P a w KK Q:=by
 obtain ⟨O,hm,hsr,hdf,hsz⟩:=hs
 have hfr:Fresh c (fun id=>!(id % 8 == 7) && !Env.mentions id S.sl):=⟨fun id h=>by simp at h; exact h.1,hF⟩
 have hA:=Args.of_view (c:=c) hsr hys
 have hdst:∀ x,o.dst=some x→x < a.tmps.size∧x < 1048576:=fun x hx=>by rw [hx] at hN; rw [hsz]; simpa [Opx] using hN
 have fin:∀ {v:Value} {w':World} {O':OM},MR c O' ob' w'→VR w' c.B (okb c.ok0 c.B O') O' d v→Tr c.ok0 c.B (fun id=>(!(id % 8 == 7) && !Env.mentions id S.sl)=true) w O w' O'→KK (a.put o.dst v) w':=by
  intro v w' O' hm' hv' ht
  have hsr':SR w' c.B (okb c.ok0 c.B O') O' S.sl a:=fun t=>(hsr t).tr ht (fun id hid=>mentions_of (by simp at hid; exact hid.2) t)
  exact hK _ _ ⟨O',hm',hsr'.put hv' hdst,by rw [put_defers]; exact hdf.tr hm ht,by rw [put_size]; exact hsz⟩
 by_cases hcall:∃ f id,k=Lg.K.call f id
 ·obtain ⟨f,id,rfl⟩:=hcall
  simp only [eff] at he
  have hop:=viewK_call hv
  obtain ⟨cl,hop,hcal,rfl⟩:=hop
  obtain ⟨hb,hc⟩:=hΓ.plain c _ w O S.ob ob' f id (cl.args.map a.eval) (ys.map S.get) d hm hfr (by rw [hA.1]; simp) (fun j d v hd hv=>by
   rw [Array.getElem?_map,Option.map_eq_some_iff] at hv
   obtain ⟨x,hx,rfl⟩:=hv
   exact hA.2 j d x hd (by simpa using hx)) he
  unfold hasBody at hb
  split at hb
  ·rename_i fn hfn
   simp only [Bool.and_eq_true,Bool.not_eq_true'] at hb
   have hrun:(execOp a.eval o).run P w=.ok (.enter f (cl.args.map a.eval)) w:=by
    have hbn:¬ fn.body=none:=by intro h; rw [h] at hb; simp at hb
    have hne : ¬ fn.name = "runtime.NumGoroutine" := by have := hb.2; simpa using this
    simp [execOp,hop,resolve,hcal,Act.eval,Deferred.ofValue,invoke,callFunc,hfn,hne,hbn]
   refine ⟨fun _ _=>trivial,?_⟩
   rw [Oper.semAt_eq _ _ _ (viewK_nd hv),hrun,Oper.uponIn_enter]
   refine ⟨fun h=>(by cases h),(wd_calls hc).mono ?_⟩
   intro e w' ⟨v,O',he,hm',hv',ht⟩
   subst he
   exact fin hm' hv' ht
  ·cases hb
 by_cases hcalld:∃ id,k=Lg.K.calld id
 ·obtain ⟨id,rfl⟩:=hcalld
  simp only [eff] at he
  obtain ⟨cl,t,hop,hcal,rfl⟩:=viewK_calld hv
  obtain ⟨f,cs,zs,hzs,hcaps,he⟩:=calldD_some he
  rw [hzs] at hA
  obtain ⟨hA1,hA2⟩:=hA.tail
  obtain ⟨us,hfv,hcs⟩:=hA1.fn'
  have h1:zs.length=cl.args.size:=by rw [hA2.1]; simp
  obtain ⟨AV,hsz,hvv,hres⟩:∃ AV:Array Value,(fnArgs cs zs).length=AV.size∧(∀ (j:Nat) (d:DV) (v:Value),(fnArgs cs zs)[j]?=some d→AV[j]?=some v→VR w c.B (okb c.ok0 c.B O) O d v) ∧
    (∀ fn : Func,P.funcs[f]? = some fn → ¬ fn.body = none → ¬ fn.name = "runtime.NumGoroutine" → (execOp a.eval o).run P w = .ok (.enter f AV) w) := by
   by_cases hd:∃ r,cs=.dead :: r
   ·obtain ⟨r,rfl⟩:=hd
    have hok:=List.all_eq_true.1 (show r.all DV.capB=true from hcaps)
    have hl:=hcs.1
    have e3:fnV f (.dead :: r) us=.func (.func f) #[.agg us.toList.tail.toArray] #[]:=rfl
    rw [e3] at hfv
    refine ⟨#[.agg us.toList.tail.toArray]++cl.args.map a.eval,by show (DV.st r :: zs).length=_; simp [h1]; omega,fun j d v hd hv=>?_,fun fn hfn hbn hne=>?_⟩
    ·cases j with
     | zero =>
      have hd':DV.st r=d:=by injection hd
      subst hd'
      have hv':Value.agg us.toList.tail.toArray=v:=by
       rw [Array.getElem?_append_left (by simp)] at hv
       simpa using hv
      subst hv'
      refine .st _ _ ⟨by simp at hl ⊢; omega,fun i x u hx hu=>?_⟩
      have hx1:(DV.dead :: r)[i+1]?=some x:=by simpa using hx
      have hu1:us.toList[i+1]?=some u:=by
       have:us.toList.tail[i]?=some u:=by simpa using hu
       rwa [List.getElem?_tail] at this
      rcases hcs.2 (i+1) x u hx1 hu1 with h4 | ⟨e,ad,xs,h4,_⟩
      ·exact h4
      ·have:=hok x (List.mem_of_getElem? hx)
       rw [h4] at this
       cases this
     | succ j =>
      have hd':zs[j]?=some d:=hd
      have hv':(cl.args.map a.eval)[j]?=some v:=by
       rw [Array.getElem?_append_right (by simp)] at hv
       simpa using hv
      rw [Array.getElem?_map,Option.map_eq_some_iff] at hv'
      obtain ⟨x,hx,rfl⟩:=hv'
      exact hA2.2 j d x hd' (by simpa using hx)
    ·simp [execOp,hop,resolve,hcal,hfv,Deferred.ofValue,invoke,callFunc,hfn,hne,hbn]
   ·have hd':∀ r,cs≠.dead :: r:=fun r e=>hd ⟨r,e⟩
    have ea:fnArgs cs zs=zs++cs:=by
     unfold fnArgs
     split
     ·exact absurd rfl (hd' _)
     ·rfl
    rw [fnV_plain hd'] at hfv
    rw [ea]
    refine ⟨cl.args.map a.eval++us,?_,fun j d v hd hv=>?_,fun fn hfn hbn hne=>?_⟩
    ·have h2:us.size=cs.length:=by have:=hcs.1; simpa using this
     simp only [List.length_append,Array.size_append,Array.size_map,h1,h2]
    ·by_cases hj:j < zs.length
     ·rw [List.getElem?_append_left hj] at hd
      rw [Array.getElem?_append_left (by rw [Array.size_map]; omega),Array.getElem?_map,Option.map_eq_some_iff] at hv
      obtain ⟨x,hx,rfl⟩:=hv
      exact hA2.2 j d x hd (by simpa using hx)
     ·rw [List.getElem?_append_right (by omega)] at hd
      rw [Array.getElem?_append_right (by rw [Array.size_map]; omega),Array.size_map] at hv
      exact (hcs.2 _ d v hd (by rw [h1]; simpa using hv)).vr
    ·simp [execOp,hop,resolve,hcal,hfv,Deferred.ofValue,invoke,callFunc,hfn,hne,hbn]
  obtain ⟨hb,hc⟩:=hΓ.plain c _ w O S.ob ob' f id AV (fnArgs cs zs) d hm hfr hsz hvv he
  unfold hasBody at hb
  split at hb
  ·rename_i fn hfn
   simp only [Bool.and_eq_true,Bool.not_eq_true'] at hb
   have hrun:(execOp a.eval o).run P w=.ok (.enter f AV) w :=
    hres fn hfn (by intro h; rw [h] at hb; simp at hb) (by have:=hb.2; simpa using this)
   refine ⟨fun _ _=>trivial,?_⟩
   rw [Oper.semAt_eq _ _ _ (viewK_nd hv),hrun,Oper.uponIn_enter]
   refine ⟨fun h=>(by cases h),(wd_calls hc).mono ?_⟩
   intro e w' ⟨v,O',he,hm',hv',ht⟩
   subst he
   exact fin hm' hv' ht
  ·cases hb
 by_cases hcallg:∃ f id,k=Lg.K.callg f id
 ·obtain ⟨f,id,rfl⟩:=hcallg
  rw [eff_callg] at he
  obtain ⟨cl,hop,hcal,rfl⟩:=viewK_callg hv
  obtain ⟨zs,ob1,hg,he⟩:=callgD_some he
  obtain ⟨O1,hm1,ht1,hl1,hv1⟩:=give_ok (ys.map S.get) (cl.args.map a.eval).toList hm (by rw [hA.1]; simp) (fun j d v hd hv=>by
   rw [Array.getElem?_toList,Array.getElem?_map,Option.map_eq_some_iff] at hv
   obtain ⟨x,hx,rfl⟩:=hv
   exact hA.2 j d x hd (by simpa using hx)) hg
  obtain ⟨hb,hc⟩:=hΓ.plain c _ w O1 ob1 ob' f id (cl.args.map a.eval) zs d hm1 hfr (by rw [hl1,hA.1]; simp) (fun j d v hd hv=>hv1 j d v hd (by rw [Array.getElem?_toList]; exact hv)) he
  unfold hasBody at hb
  split at hb
  ·rename_i fn hfn
   simp only [Bool.and_eq_true,Bool.not_eq_true'] at hb
   have hrun:(execOp a.eval o).run P w=.ok (.enter f (cl.args.map a.eval)) w:=by
    have hbn:¬ fn.body=none:=by intro h; rw [h] at hb; simp at hb
    have hne : ¬ fn.name = "runtime.NumGoroutine" := by have := hb.2; simpa using this
    simp [execOp,hop,resolve,hcal,Act.eval,Deferred.ofValue,invoke,callFunc,hfn,hne,hbn]
   refine ⟨fun _ _=>trivial,?_⟩
   rw [Oper.semAt_eq _ _ _ (viewK_nd hv),hrun,Oper.uponIn_enter]
   refine ⟨fun h=>(by cases h),(wd_calls hc).mono ?_⟩
   intro e w' ⟨v,O',he,hm',hv',ht⟩
   subst he
   exact fin hm' hv' ((ht1.trans ht).mono fun id hid=>by rcases hid with h | h; exact h.elim; exact h)
  ·cases hb
 by_cases hcallm:∃ f ms id,k=Lg.K.callm f ms id
 ·obtain ⟨f,ms,id,rfl⟩:=hcallm
  rw [eff_callm] at he
  obtain ⟨cl,hop,hcal,rfl⟩:=viewK_callm hv
  have hfr':Fresh c (givFr (givKs (givAt ms 0 (ys.map S.get))) (fun id=>!(id % 8 == 7) && !Env.mentions id S.sl)):=⟨fun i hi=>hfr.a i (by unfold givFr at hi; rw [Bool.and_eq_true] at hi; exact hi.1),hfr.b⟩
  obtain ⟨hb,hc⟩:=hΓ c _ w O S.ob ob' f id (cl.args.map a.eval) (givAt ms 0 (ys.map S.get)) d hm hfr' (by rw [givAt_len,hA.1]; simp) (fun j d v hd hv=>by
   rw [Array.getElem?_map,Option.map_eq_some_iff] at hv
   obtain ⟨x,hx,rfl⟩:=hv
   obtain ⟨d0,hd0,e⟩:=givAt_get ms _ 0 j d hd
   have:=hA.2 j d0 x hd0 (by simpa using hx)
   rcases e with rfl | rfl
   ·rw [this.ung]; exact this
   ·exact this.toGiv) (fun k hk h6 i hi=>by
   unfold givFr at hi
   rw [Bool.and_eq_true,Bool.or_eq_true,List.all_eq_true] at hi
   rcases hi.2 with h | h
   ·have:=h k hk
    simp only [decide_eq_true_eq] at this
    omega
   ·simpa using h) he
  unfold hasBody at hb
  split at hb
  ·rename_i fn hfn
   simp only [Bool.and_eq_true,Bool.not_eq_true'] at hb
   have hrun:(execOp a.eval o).run P w=.ok (.enter f (cl.args.map a.eval)) w:=by
    have hbn:¬ fn.body=none:=by intro h; rw [h] at hb; simp at hb
    have hne : ¬ fn.name = "runtime.NumGoroutine" := by have := hb.2; simpa using this
    simp [execOp,hop,resolve,hcal,Act.eval,Deferred.ofValue,invoke,callFunc,hfn,hne,hbn]
   refine ⟨fun _ _=>trivial,?_⟩
   rw [Oper.semAt_eq _ _ _ (viewK_nd hv),hrun,Oper.uponIn_enter]
   refine ⟨fun h=>(by cases h),(wd_calls hc).mono ?_⟩
   intro e w' ⟨v,O',he,hm',hv',ht⟩
   subst he
   exact fin hm' hv' (ht.mono fun i hi=>by unfold givFr at hi; rw [Bool.and_eq_true] at hi; exact hi.1)
  ·cases hb
 ·have he':effP (fun id=>!(id % 8 == 7) && !Env.mentions id S.sl) k (ys.map S.get) S.ob=some (d,ob'):=by
   unfold eff at he
   split at he
   ·rename_i f id; exact absurd ⟨f,id,rfl⟩ hcall
   ·rename_i f id; exact absurd ⟨f,id,rfl⟩ hcallg
   ·rename_i f ms id; exact absurd ⟨f,ms,id,rfl⟩ hcallm
   ·rename_i id; exact absurd ⟨id,rfl⟩ hcalld
   ·exact he
  obtain ⟨v,w',O',hr,hm',hv',ht⟩:=effP_ok hm hfr hv hA he'
  refine ⟨fun _ _=>trivial,?_⟩
  rw [Oper.semAt_eq _ _ _ (viewK_nd hv)]
  rcases hr with hr | ⟨hr,rfl⟩
  ·rw [hr]; exact fin hm' hv' ht
  ·rw [hr]; exact fin hm' hv' ht
end
end Go.Lg

namespace Go.Lg
open Go.RowKit
variable [GL]
set_option linter.unusedVariables false

/-- Nothing but slots and objects that are left; kills and what only the reading knows of are left out. -/
def strip:LC→LC
 | .skip=>.skip
 | .ret=>.ret
 | .exit id=>.exit id
 | .region d ops _=>.region d ops []
 | .seq a b=>.seq (strip a) (strip b)
 | .cond c _ x y=>.cond c [] (strip x) (strip y)
 | .block id b=>.block id (strip b)
 | .loop b=>.loop (strip b)
 | .ghost _ c=>strip c
 | .void=>.void
 | .back fs g i x _ asg b=>.back fs g i x [] asg (strip b)
 | .cut o1 _ o2 _=>.region false (o1++o2) []

/-- Is this the function that slices.Backward gives? -/
def bk0:List LOp→Bool
 | [⟨some a,.load s g,[.t x],none⟩,⟨some b,.len,[.t y],none⟩,⟨some e,.bin .sub,[.t z,.c (.i n)],none⟩,⟨some h,.mv,[.t q],none⟩] =>
  decide (a=4∧s=1∧g=false∧x=1∧b=5∧y=4∧e=6∧z=5∧n=1∧h=3∧q=6)
 | _=>false
def bk1:List LOp→Bool
 | [⟨some a,.mv,[.t x],none⟩,⟨some b,.bin .geq,[.t y,.c (.i n)],none⟩]=>decide (a=7∧x=3∧b=8∧y=7∧n=0)
 | _=>false
def bk3:List LOp→Bool
 | [⟨some a,.mv,[.t a1],none⟩,⟨some b,.mv,[.t b1],none⟩,⟨some d,.load s g,[.t d1],none⟩,⟨some e,.mv,[.t e1],none⟩,⟨some h,.idxa s2,[.t h1,.t h2],none⟩,⟨some i,.load s3 g3,[.t i1],none⟩,⟨some j,.calld _,[.t j1,.t j2,.t j3],none⟩,⟨some l,.un .not,[.t l1],none⟩] =>
  decide (a=11∧a1=0∧b=12∧b1=3∧d=13∧s=1∧g=false∧d1=1∧e=14∧e1=3∧h=15∧s2=1∧h1=13∧h2=14∧i=16∧s3=1∧g3=false∧i1=15∧j=17∧j1=11∧j2=12∧j3=16∧l=18∧l1=17)
 | _=>false
def bk2:List LOp→Bool
 | [⟨some a,.mv,[.t x],none⟩,⟨some b,.bin .sub,[.t y,.c (.i n)],none⟩,⟨some e,.mv,[.t z],none⟩]=>decide (a=9∧x=3∧b=10∧y=9∧n=1∧e=3∧z=10)
 | _=>false
def bkOps (P:Program) (f:List LOp→Bool) (ops:Array Oper):Bool:=match viewOps P ops ops.toList with
 | some ls=>f ls
 | none=>false
def tmpB (x:Operand) (n:Nat):Bool:=match x with
 | .tmp t=>t == n
 | _=>false
def rawB (ops:Array Oper):Bool:=match ops.toList with
 | o :: _=>(match o.op with
  | .move x=>tmpB x 0
  | _=>false)
 | _=>false
def bkCode (P:Program):Code→Bool
 | .seq (.region _ o0 false) (.block b0 (.loop (.seq (.seq (.region _ o1 false) (.cond c1 .skip (.exit b1))) (.seq (.block _ (.seq (.region _ o3 false) (.cond c3 .ret .skip))) (.region _ o2 false))))) =>
  bkOps P bk0 o0 && bkOps P bk1 o1 && bkOps P bk3 o3 && bkOps P bk2 o2 && rawB o3 && b0 == b1 && tmpB c1 8 && tmpB c3 18
 | _=>false
def backB (P:Program) (f:Nat):Bool:=match P.funcs[f]? with
 | some fn=>(match fn.body with
  | some code=>bkCode P code
  | none => false) && fn.ntmps == 19 && !(fn.name == "runtime.NumGoroutine") && fn.results.size == 0
 | none=>false

def viewB (P:Program) (g:Operand) (ps:Array Tmp) (a:Code) (y:Option LC):Option LC:=match g,a,ps.toList with
 | .tmp g,.region _ ops false,[i,x]=>match viewOps P ops ops.toList with
  | some ls=>match y with
   | some y=>if (GL.backs.all (backB P) && decide (g < 1048576))=true then some (.back GL.backs g i x [] ls y) else some .void
   | none=>none
  | none=>some .void
 | _,_,_=>some .void
def notB:LC→Bool
 | .void | .back ..=>false
 | _=>true
theorem viewB_off {P:Program} {g:Operand} {ps:Array Tmp} {a:Code} {y:Option LC} {l:LC} (h:viewB P g ps a y=some l) (hl:notB l=true):False:=by
 unfold viewB at h
 repeat' (first | (injection h with h; subst h; cases hl; done) | (cases h; done) | split at h)

def viewC (P:Program):Code→Option LC
 | .skip=>some .skip
 | .ret=>some .ret
 | .exit id=>some (.exit id)
 | .region _ ops d=>match viewOps P ops ops.toList with
  | some ls=>some (.region d ls [])
  | none=>some .void
 | .seq a b=>match viewC P a with
  | some x=>match viewC P b with
   | some y=>some (.seq x y)
   | none=>none
  | none=>none
 | .cond c a b=>match viewOpd c with
  | some q=>match viewC P a with
   | some x=>match viewC P b with
    | some y=>some (.cond q [] x y)
    | none=>none
   | none=>none
  | none=>none
 | .block id b=>(viewC P b).map (.block id ·)
 | .loop b=>(viewC P b).map .loop
 | .rangeFunc g ps a b=>viewB P g ps a (viewC P b)
 | _=>some .void

/-- Every slot that is written lies within the frame; every region that draws passes a look. -/
def okC (N:Nat) (dc:Array Oper→Bool):Code→Bool
 | .region _ ops d=>ops.toList.all (fun o=>Opx o.dst N) && (!d || dc ops)
 | .seq a b | .cond _ a b=>okC N dc a && okC N dc b
 | .block _ b | .loop b=>okC N dc b
 | .rangeFunc _ ps a b=>ps.toList.all (fun t=>decide (t < N) && decide (t < 1048576)) && okC N dc a && okC N dc b
 | _=>true

def Ex.to:Ex→Exit
 | .normal=>.normal
 | .exit id=>.exit id
 | .ret=>.ret

section
variable {P:Program} {Γ:Fns} {c:Cx} {N:Nat}

theorem St.less {S:LS} {a:Act} {w:World} (h:St c N S a w) (f:Nat→Bool) (h5:∀ k,k % 8=5→f k=true) (e:Env) (he:∀ t,look e t=look S.sl t∨look e t=.dead):St c N { sl:=e,ob:=S.ob.filter fun p=>f p.1 } a w:=by
 obtain ⟨O,hm,hs,h1,h2⟩:=h
 obtain ⟨hm',ht⟩:=hm.less f (fun k hk=>.inl (h5 k hk))
 refine ⟨_,hm',fun t=>?_,h1,h2⟩
 rcases he t with h | h
 ·rw [h]; exact (hs t).tr ht (fun _ h=>h.elim)
 ·rw [h]; exact .dead _
theorem St.drop {S:LS} {a:Act} {w:World} (h:St c N S a w) (kill:List Nat):St c N (S.drop kill) a w:=by
 unfold LS.drop
 split
 ·exact h
 ·refine h.less (fun k=>k % 8 == 5 || Env.mentions k (killE kill S.sl)) (fun k hk=>by simp [hk]) _ (fun t=>?_)
  rw [look_kill]
  split
  ·exact .inr rfl
  ·exact .inl rfl

theorem und_not_bool {w:World} {B:Nat} {ok:OkT} {O:OM} {v:Value} (h:VR w B ok O .und v):v=undef:=by
 cases h with
 | cr _ _ h=>cases h
 | und=>rfl

theorem slotOf_lt {ops:Array Oper} {j t:Nat} (h:slotOf ops j=some t):t < 1048576:=by
 unfold slotOf at h
 split at h
 ·rename_i t' ht
  split at h
  ·rename_i hl; injection h with h; rw [← h]; exact hl
  ·cases h
 ·cases h
theorem yielded_of {ops:Array Oper} {j t:Nat} {a:Act} (h:slotOf ops j=some t):(∀ b,a.tmps.getD t undef=.bool b→yielded ops a.tmps j=some b)∧(a.tmps.getD t undef=undef→yielded ops a.tmps j=none):=by
 have h:(ops[j]?).bind (·.dst)=some t:=by
  unfold slotOf at h
  split at h
  ·rename_i t' ht
   split at h
   ·injection h with h; rw [ht,h]
   ·cases h
  ·cases h
 unfold yielded
 rw [h]
 simp only [Option.bind_some,Array.getD_eq_getD_getElem?]
 cases hx:a.tmps[t]? with
 | none=>simp [undef]
 | some v=>cases v <;> simp [undef]

/-- One operation at its place in a region. -/
theorem stepL_ok (hΓ:CallOk P Γ) (hF:∀ r∈c.refs,6≤r.1 % 8) {ops:Array Oper} {o:Oper} {l:LOp} (hv:viewOp P ops o=some l) (hN:Opx o.dst N=true) {S S1:LS} {a:Act} {w:World} (hs:St c N S a w) (he:stepL Γ l S=some S1)
  {KK:Act→World→Prop} {Q:Exit→Act→World→Prop} (hK:∀ v w',St c N S1 (a.put o.dst v) w'→KK (a.put o.dst v) w') {r:Option Nat} {m:Nat} :
  if Region.wanted o (yielded ops a.tmps)=true then o.wpIn (Wd r) m P a w KK Q else KK (a.put o.dst undef) w:=by
 unfold viewOp at hv
 split at hv
 ·rename_i k xs hk
  split at hv
  ·rename_i ys hys
   have hskip:∀ {S1:LS},S1={ S with sl:=putD S.sl o.dst .und }→(∀ v w',St c N S1 (a.put o.dst v) w'→KK (a.put o.dst v) w')→KK (a.put o.dst undef) w:=by
    rintro S1 rfl hK
    obtain ⟨O,hm,hsr,hdf,hsz⟩:=hs
    refine hK _ _ ⟨O,hm,hsr.put .und (fun x hx=>by rw [hx] at hN; rw [hsz]; simpa [Opx] using hN),by rw [put_defers]; exact hdf,by rw [put_size]; exact hsz⟩
   have hgo:∀ {d:DV} {ob:OB},eff Γ (fun id=>!(id % 8 == 7) && !Env.mentions id S.sl) k (ys.map S.get) S.ob=some (d,ob)→S1={ sl:=putD S.sl o.dst d,ob:=ob }→o.wpIn (Wd r) m P a w KK Q:=by
    rintro d ob h rfl
    exact step_run hΓ hF hk hys hN hs h hK
   split at hv
   ·rename_i hg
    injection hv with hv
    subst hv
    rw [if_pos (by simp [Region.wanted,hg])]
    simp only [stepL] at he
    split at he
    ·rename_i d ob heff
     injection he with he
     exact hgo heff he.symm
    ·cases he
   ·rename_i j want hg
    split at hv
    ·rename_i t ht
     injection hv with hv
     subst hv
     obtain ⟨y1,y2⟩:=yielded_of (a:=a) ht
     obtain ⟨O,hm,hsr,hdf,hsz⟩:=id hs
     have ht':=hsr t
     rw [tval_lt a (slotOf_lt ht)] at ht'
     simp only [stepL] at he
     split at he
     ·rename_i b hb
      rw [hb] at ht'
      have hy:=y1 b ht'.bool
      split at he
      ·rename_i hbw
       rw [if_pos (by simp [Region.wanted,hg,hy,hbw])]
       split at he
       ·rename_i d ob heff
        injection he with he
        exact hgo heff he.symm
       ·cases he
      ·rename_i hbw
       injection he with he
       rw [if_neg (by simp [Region.wanted,hg,hy,hbw])]
       exact hskip he.symm hK
     ·rename_i hb
      rw [hb] at ht'
      have hy:=y2 (und_not_bool ht')
      injection he with he
      rw [if_neg (by simp [Region.wanted,hg,hy])]
      exact hskip he.symm hK
     ·cases he
    ·cases hv
  ·cases hv
 ·cases hv

theorem runL_ok (hΓ:CallOk P Γ) (hF:∀ r∈c.refs,6≤r.1 % 8) {ops:Array Oper} {Q:Exit→Act→World→Prop} {r:Option Nat} {m:Nat}:∀ {os:List Oper} {ls:List LOp} {S S1:LS} {a:Act} {w:World},viewOps P ops os=some ls→(∀ o∈os,Opx o.dst N=true)→St c N S a w →
  runL Γ ls S=some S1→(∀ a' w',St c N S1 a' w'→Q .normal a' w')→wpListIn (Wd r) m P ops Q os a w
 | [],ls,S,S1,a,w,hv,_,hs,he,hQ=>by
  simp only [viewOps,Option.some.injEq] at hv
  subst hv
  simp only [runL,Option.some.injEq] at he
  subst he
  exact wpListIn_nil (hQ _ _ hs)
 | o :: os,ls,S,S1,a,w,hv,hN,hs,he,hQ=>by
  simp only [viewOps] at hv
  split at hv
  ·rename_i l hl
   split at hv
   ·rename_i ls' hls
    injection hv with hv
    subst hv
    simp only [runL] at he
    split at he
    ·rename_i S2 h2
     refine wpListIn_step (fun K hK=>?_)
     have hok:=stepL_ok (KK:=K) (Q:=Q) (r:=r) (m:=m) hΓ hF hl (hN o (List.mem_cons_self ..)) hs h2 (fun a' w' hs'=>hK _ _ (runL_ok hΓ hF hls (fun x hx=>hN x (List.mem_cons_of_mem _ hx)) hs' he hQ))
     split
     ·rename_i hw; rw [if_pos hw] at hok; exact hok
     ·rename_i hw; rw [if_neg hw] at hok; exact ⟨fun _ _=>trivial,hok⟩
    ·cases he
   ·cases hv
  ·cases hv

theorem allOldL_all:∀ ds:List DV,allOldL ds=ds.all DV.allOld
 | []=>rfl
 | d :: ds=>by simp [allOldL,allOldL_all ds]
theorem allOld_flat {es:List DV} (h:allOldL es=true):∀ c∈flat es,c.allOld=true:=by
 rw [allOldL_all,List.all_eq_true] at h
 intro c hc
 simp only [flat,List.mem_flatMap] at hc
 obtain ⟨e,he,hce⟩:=hc
 have h1:=h e he
 cases e with
 | st cs =>
  simp only [DV.cells] at hce
  simp only [DV.allOld,allOldL_all,List.all_eq_true] at h1
  exact h1 c hce
 | _=>simp only [DV.cells,List.mem_singleton] at hce; subst hce; exact h1
theorem CR.old_ {w:World} {B:Nat} {ok ok':OkT} {d:DV} {v:Value} (h:CR w B ok d v) (hd:d.allOld=true) (hok:∀ b,ok b→b < w.heap.size→b < B→ok' b):CR w B ok' d v:=by
 induction h with
 | i n=>exact .i n
 | y n hn=>exact .y n hn
 | b x=>exact .b x
 | s l=>exact .s l
 | w x=>exact .w x
 | q n hn=>exact .q n hn
 | r n=>exact .r n
 | nf=>exact .nf
 | cel j n A m cap hm h=>simp [DV.allOld] at hd
 | wild A m cap hm=>simp [DV.allOld] at hd
 | sl0 p A cap hm=>exact .sl0 p A cap hm
 | sl p es ad n cap sz xs hn h0 hc hm hsz hok1 hlt hold hnew hrow hl hcell hrec ih =>
  simp only [DV.allOld,Bool.and_eq_true,beq_iff_eq] at hd
  exact .sl p es ad n cap sz xs hn h0 hc hm hsz (hok _ hok1 hlt (hold hd.1)) hlt hold hnew hrow hl hcell (fun j c u hc hu=>ih j c u hc hu (allOld_flat hd.2 c (List.mem_of_getElem? hc)))
 | fn f cs vs hl ads yss hp hq hr ihq ihr =>
  simp only [DV.allOld,allOldL_all,List.all_eq_true] at hd
  have no:∀ (j:Nat) (e:DV),cs[j]?=some (.adr e)→False:=fun j e h=>by
   have:=hd _ (List.mem_of_getElem? h)
   simp [DV.allOld] at this
  exact .fn f cs vs hl ads yss (fun j e u h1 _=>(no j e h1).elim) (fun j e i c x h1 _ _=>(no j e h1).elim) (fun j c u h1 h2 h3=>ihr j c u h1 h2 h3 (hd c (List.mem_of_getElem? h1)))
theorem CRs.old_ {w:World} {B:Nat} {ok ok':OkT} {cs:List DV} {xs:List Value} (h:CRs w B ok cs xs) (hd:∀ c∈cs,c.allOld=true) (hok:∀ b,ok b→b < w.heap.size→b < B→ok' b):CRs w B ok' cs xs :=
 ⟨h.1,fun j c u hc hu=>(h.2 j c u hc hu).old_ (hd c (List.mem_of_getElem? hc)) hok⟩
theorem OR.old_ {w:World} {B:Nat} {ok ok':OkT} {p:PO} {es:List DV} (h:OR w B ok p es) (hd:allOldL es=true) (hok:∀ b,ok b→b < w.heap.size→b < B→ok' b):OR w B ok' p es:=by
 obtain ⟨xs,hr,hc⟩:=h.row
 exact ⟨h.len,h.pos,h.wid,xs,hr,hc.old_ (allOld_flat hd) hok⟩
theorem VR.aside_ {w:World} {B:Nat} {ok ok':OkT} {O O':OM} {d:DV} {v:Value} (h:VR w B ok O d v) (hd:d.aside=true) (hok:∀ b,ok b→b < w.heap.size→b < B→ok' b) (hs:∀ k,d.mentions k=true→O' k=O k):VR w B ok' O' d v:=by
 cases h with
 | cr d v h=>exact .cr _ _ (h.old_ (by cases h <;> first | rfl | exact hd | simp [DV.aside] at hd) hok)
 | st cs vs h=>exact .st _ _ (h.old_ (by simp only [DV.aside,allOldL_all,List.all_eq_true] at hd; exact hd) hok)
 | fn f cs vs h =>
  simp only [DV.aside,allOldL_all,List.all_eq_true] at hd
  refine .fn _ _ _ ⟨h.1,fun j d u h1 h2=>?_⟩
  have hdo:=hd d (List.mem_of_getElem? h1)
  rcases h.2 j d u h1 h2 with h3 | ⟨e,ad,xs,rfl,_⟩
  ·exact .inl (h3.old_ hdo hok)
  ·simp [DV.allOld] at hdo
 | nil=>exact .nil
 | np=>exact .np
 | und=>exact .und
 | dead v=>exact .dead v
 | adr d ad xs hok hlt hcell h=>simp [DV.aside] at hd
 | own k n lo hi p v hO hn h1 h2 hv=>exact .own k n lo hi p v (by rw [hs k (by simp [DV.mentions])]; exact hO) hn h1 h2 hv
 | ownS k n lo hi A cap hO=>exact .ownS k n lo hi A cap (by rw [hs k (by simp [DV.mentions])]; exact hO)
 | oad k n a o p g hO hn hg=>exact .oad k n a o p g (by rw [hs k (by simp [DV.mentions])]; exact hO) hn hg
 | oadS k n a o ad hO=>exact .oadS k n a o ad (by rw [hs k (by simp [DV.mentions])]; exact hO)
 | tup ds vs hl hnt h=>simp [DV.aside] at hd
theorem asideE_look {t:Nat}:∀ {e:Env} (_:asideE t e=true) (k:Nat),k≠t→(look e k).aside=true
 | [],_,_,_=>rfl
 | (j,d) :: r,h,k,hk=>by
  simp only [asideE,Bool.and_eq_true,Bool.or_eq_true,beq_iff_eq] at h
  simp only [look]
  split
  ·rename_i hj
   rcases h.1 with h1 | h1
   ·exact absurd (hj.symm.trans h1) hk
   ·exact h1
  ·exact asideE_look h.2 k hk
theorem asideO_look:∀ {ob:OB} (_:asideO ob=true) {k:Nat} {es:List DV},lookO ob k=some es→allOldL es=true
 | [],_,_,_,he=>by cases he
 | (j,l) :: r,h,k,es,he=>by
  simp only [asideO,Bool.and_eq_true] at h
  simp only [lookO] at he
  split at he
  ·injection he with he; subst he; exact h.1
  ·exact asideO_look h.2 he

/-- What is asked of the regions that draw their order. -/
theorem viewOps_app {ops:Array Oper}:∀ {l1 l2:List LOp} {os:List Oper},viewOps P ops os=some (l1++l2)→∃ p1 p2,os=p1++p2∧viewOps P ops p1=some l1∧viewOps P ops p2=some l2
 | [],l2,os,h=>⟨[],os,rfl,rfl,h⟩
 | l :: l1,l2,[],h=>by simp [viewOps] at h
 | l :: l1,l2,o :: os,h=>by
  simp only [viewOps] at h
  split at h
  ·rename_i l' hl
   split at h
   ·rename_i ls' hls
    injection h with h
    injection h with h1 h2
    subst h1; subst h2
    obtain ⟨p1,p2,e,h3,h4⟩:=viewOps_app hls
    exact ⟨o :: p1,p2,by rw [e]; rfl,by simp only [viewOps,hl,h3],h4⟩
   ·cases h
  ·cases h
/-- As runL_ok,for the first part of a region. -/
theorem runLp_ok (hΓ:CallOk P Γ) (hF:∀ r∈c.refs,6≤r.1 % 8) {ops:Array Oper} {Q:Exit→Act→World→Prop} {r:Option Nat} {m:Nat} {post:List Oper}:∀ {os:List Oper} {ls:List LOp} {S S1:LS} {a:Act} {w:World},viewOps P ops os=some ls→(∀ o∈os,Opx o.dst N=true)→St c N S a w →
  runL Γ ls S=some S1→(∀ a' w',St c N S1 a' w'→wpListIn (Wd r) m P ops Q post a' w')→wpListIn (Wd r) m P ops Q (os++post) a w
 | [],ls,S,S1,a,w,hv,_,hs,he,hQ=>by
  simp only [viewOps,Option.some.injEq] at hv
  subst hv
  simp only [runL,Option.some.injEq] at he
  subst he
  exact hQ _ _ hs
 | o :: os,ls,S,S1,a,w,hv,hN,hs,he,hQ=>by
  simp only [viewOps] at hv
  split at hv
  ·rename_i l hl
   split at hv
   ·rename_i ls' hls
    injection hv with hv
    subst hv
    simp only [runL] at he
    split at he
    ·rename_i S2 h2
     refine wpListIn_step (fun K hK=>?_)
     have hok:=stepL_ok (KK:=K) (Q:=Q) (r:=r) (m:=m) hΓ hF hl (hN o (List.mem_cons_self ..)) hs h2 (fun a' w' hs'=>hK _ _ (runLp_ok hΓ hF hls (fun x hx=>hN x (List.mem_cons_of_mem _ hx)) hs' he hQ))
     split
     ·rename_i hw; rw [if_pos hw] at hok; exact hok
     ·rename_i hw; rw [if_neg hw] at hok; exact ⟨fun _ _=>trivial,hok⟩
    ·cases he
   ·cases hv
  ·cases hv

def DrawOk (P:Program) (Γ:Fns) (dc:Array Oper→Bool):Prop:=∀ (r:Option Nat) (m:Nat) (c:Cx) (N id:Nat) (ops:Array Oper) (ls:List LOp) (S S1:LS) (a:Act) (w:World) (Q:Exit→Act→World→Prop),dc ops=true→(∀ r∈c.refs,6≤r.1 % 8)→viewOps P ops ops.toList=some ls →
 (∀ o∈ops.toList,Opx o.dst N=true)→St c N S a w→runR Γ true ls S=some S1→(∀ a' w',St c N S1 a' w'→Q .normal a' w')→(Code.region id ops true).wpIn (Wd r) m P Q a w

theorem promote_ok (hF:∀ r∈c.refs,6≤r.1 % 8) {t id:Nat} {e:DV} {es:List DV} {S:LS} {a:Act} {w:World} (h:St c N S a w) (hl:look S.sl t=.sl 1 (e :: es)) (h7:id % 8≠7) (hpos:0 < szId id) (hsz:szId id=e.cells.length)
  (hfr:Env.mentions id S.sl=false) (hE:asideE t S.sl=true) (hA:asideO S.ob=true) (hold:allOldL (e :: es)=true) :
  St c N { sl:=put S.sl t (.own id (es.length+1) 0 (es.length+1)),ob:=putO S.ob id (e :: es) } a w:=by
 obtain ⟨O,hm,hs,h1,h2⟩:=h
 have hv:=hs t
 rw [hl] at hv
 have hcr:=hv.sl'
 generalize hve:tval a t=v at hcr
 cases hcr with
 | sl _ _ ad n cap sz xs hn h0 hc hmx hwid hok hlt hold0 hnew hrow hlen hcell hrec =>
  obtain ⟨ty,hrw⟩:=hrow rfl
  have hge:=hnew (.inl rfl)
  have hse:e.cells.length=sz:=hwid e (List.mem_cons_self ..)
  have had:∃ g,ad=⟨g,0,none⟩:=by
   rcases hrw.2 with ⟨h,_⟩ | ⟨g,_,_,h,_⟩
   ·cases h
   ·injection h with h _ _; injection h with h; exact ⟨g,h⟩
  obtain ⟨g,rfl⟩:=had
  have hg:(PO.mk (.slice (some ⟨g,0,none⟩) n cap) n ty sz).hv.ownBlock=some g:=rfl
  simp only at hge hlt hok
  have hkeep:∀ b,okb c.ok0 c.B O b→b < w.heap.size→b < c.B→okb c.ok0 c.B (upd O id (some ⟨.slice (some ⟨g,0,none⟩) n cap,n,ty,sz⟩)) b:=by
   intro b hb _ hbB
   refine ⟨hb.1,fun k p hk=>?_⟩
   by_cases hki:k=id
   ·subst hki; rw [upd_same] at hk; injection hk with hk; subst hk
    intro hq; rw [hg] at hq; injection hq with hq; omega
   ·rw [upd_other O _ hki] at hk; exact hb.2 k p hk
  refine ⟨upd O id (some ⟨.slice (some ⟨g,0,none⟩) n cap,n,ty,sz⟩),⟨hm.os,hm.tape,hm.output,hm.size,hm.frame,fun k=>?_,fun k p l hk hkl=>?_,fun k k' p p' b hk hk' hb hb'=>?_,fun k p b hk hb=>?_,fun k p hk=>?_,fun r hr hr7 p hp=>?_,hm.glob⟩,fun t'=>?_,h1,h2⟩
  ·rw [lookO_put]
   by_cases hki:k=id
   ·simp [hki,upd]
   ·simp only [upd,hki,if_false]; exact hm.dom k
  ·rw [lookO_put] at hkl
   by_cases hki:k=id
   ·subst hki
    rw [upd_same] at hk
    injection hk with hk
    simp only [if_true] at hkl
    injection hkl with hkl
    subst hk; subst hkl
    exact ⟨hn.symm,by show 0 < sz; omega,hwid,xs,hrw,CRs.old_ ⟨hlen,hrec⟩ (allOld_flat hold) hkeep⟩
   ·rw [upd_other O _ hki] at hk
    rw [if_neg hki] at hkl
    exact (hm.obj k p l hk hkl).old_ (asideO_look hA hkl) hkeep
  ·by_cases e1:k=id <;> by_cases e2:k'=id
   ·rw [e1,e2]
   ·subst e1
    rw [upd_same] at hk; injection hk with hk; subst hk
    rw [upd_other O _ e2] at hk'
    rw [hg] at hb; injection hb with hb; subst hb
    exact absurd hb' (hok.2 k' p' hk')
   ·subst e2
    rw [upd_same] at hk'; injection hk' with hk'; subst hk'
    rw [upd_other O _ e1] at hk
    rw [hg] at hb'; injection hb' with hb'; subst hb'
    exact absurd hb (hok.2 k p hk)
   ·rw [upd_other O _ e1] at hk
    rw [upd_other O _ e2] at hk'
    exact hm.inj k k' p p' b hk hk' hb hb'
  ·by_cases hki:k=id
   ·subst hki
    rw [upd_same] at hk; injection hk with hk; subst hk
    rw [hg] at hb; injection hb with hb; subst hb
    exact .inl hge
   ·rw [upd_other O _ hki] at hk; exact hm.base k p b hk hb
  ·by_cases hki:k=id
   ·subst hki
    rw [upd_same] at hk; injection hk with hk; subst hk
    show sz=szId k
    omega
   ·rw [upd_other O _ hki] at hk; exact hm.sz k p hk
  ·have hne:r.1≠id:=fun he=>h7 (by rw [← he]; exact hr7)
   rw [upd_other O _ hne] at hp; exact hm.refs r hr hr7 p hp
  ·show VR w c.B (okb c.ok0 c.B _) _ (look (put S.sl t (.own id (es.length+1) 0 (es.length+1))) t') (tval a t')
   rw [look_put]
   split
   ·rename_i htt
    subst htt
    rw [hve]
    have hn':es.length+1=n:=by rw [← hn]; rfl
    rw [hn']
    exact .own id n 0 n ⟨.slice (some ⟨g,0,none⟩) n cap,n,ty,sz⟩ _ (upd_same _ _ _) rfl (Nat.zero_le _) (Nat.le_refl _) ⟨some ⟨g,0,none⟩,cap,rfl,hc,hmx,fun _=>⟨g,rfl,by simp⟩,fun _ _=>rfl,fun _=>⟨_,rfl⟩⟩
   ·rename_i htt
    exact (hs t').aside_ (asideE_look hE t' htt) hkeep (fun k hk=>upd_other _ _ (fun hki=>by subst hki; rw [mentions_of hfr t'] at hk; cases hk))

theorem rename_ok (hF:∀ r∈c.refs,6≤r.1 % 8) {t id k n lo hi:Nat} {es:List DV} {S:LS} {a:Act} {w:World} (h:St c N S a w) (hl:look S.sl t=.own k n lo hi) (hki:k≠id) (hk:lookO S.ob k=some es) (h7:k % 8≠7) (hi7:id % 8≠7) (hk5:k % 8≠5) (hi5:id % 8≠5) (h6:k % 8=6→id % 8=6)
  (hsz:szId k=szId id) (hn:es.length=n) (hfr:Env.mentions id S.sl=false):St c N { sl:=put S.sl t (.own id n lo hi),ob:=putO (dropO S.ob k) id es } a w:=by
 obtain ⟨O,hm,hs,h1,h2⟩:=h
 have hv:=hs t
 rw [hl] at hv
 obtain ⟨p,hO,hp,hlo,hhi,hvw,hor⟩:=hv.own_cur hm hk hn
 have e1:∀ j q,upd (upd O k none) id (some p) j=some q→(j=id∧q=p)∨(j≠id∧j≠k∧O j=some q):=by
  intro j q hj
  by_cases hji:j=id
  ·subst hji; rw [upd_same] at hj; injection hj with hj; exact .inl ⟨rfl,hj.symm⟩
  ·rw [upd_other _ _ hji] at hj
   by_cases hjk:j=k
   ·subst hjk; rw [upd_same] at hj; cases hj
   ·rw [upd_other _ _ hjk] at hj; exact .inr ⟨hji,hjk,hj⟩
 have hok:∀ b,okb c.ok0 c.B O b→okb c.ok0 c.B (upd (upd O k none) id (some p)) b:=by
  intro b hb
  refine ⟨hb.1,fun j q hj=>?_⟩
  rcases e1 j q hj with ⟨_,rfl⟩ | ⟨_,_,h⟩
  ·exact hb.2 k _ hO
  ·exact hb.2 j q h
 have ht:Tr c.ok0 c.B (fun j=>j=id) w O w (upd (upd O k none) id (some p)):=by
  refine ⟨Nat.le_refl _,fun _ _ _=>rfl,fun b hb _=>hok b hb,fun j q hN hj=>.inl ?_,fun j q hj5 hj=>⟨q,?_,.inl rfl⟩⟩
  rcases e1 j q hj with ⟨h,_⟩ | ⟨_,_,h⟩
  ·exact absurd h hN
  ·exact h
  ·rw [upd_other _ _ (fun e=>hi5 (by rw [← e]; exact hj5)),upd_other _ _ (fun e=>hk5 (by rw [← e]; exact hj5))]
   exact hj
 refine ⟨upd (upd O k none) id (some p),⟨hm.os,hm.tape,hm.output,hm.size,hm.frame,fun j=>?_,fun j q l hj hjl=>?_,fun j j' q q' b hj hj' hb hb'=>?_,fun j q b hj hb=>?_,fun j q hj=>?_,fun r hr hr7 q hq=>?_,hm.glob⟩,fun t'=>?_,h1,h2⟩
 ·rw [lookO_put,lookO_drop]
  by_cases hji:j=id
  ·simp [hji,upd]
  ·by_cases hjk:j=k
   ·subst hjk; simp [hji,upd]
   ·simp only [upd,hji,hjk,if_false]; exact hm.dom j
 ·rw [lookO_put,lookO_drop] at hjl
  rcases e1 j q hj with ⟨rfl,rfl⟩ | ⟨hji,hjk,h⟩
  ·simp only [if_true] at hjl
   injection hjl with hjl
   subst hjl
   exact hor.tr ht (fun _ _=>rfl)
  ·rw [if_neg hji,if_neg hjk] at hjl
   exact (hm.obj j q l h hjl).tr ht (fun _ _=>rfl)
 ·rcases e1 j q hj with ⟨rfl,rfl⟩ | ⟨hji,hjk,h⟩ <;> rcases e1 j' q' hj' with ⟨rfl,rfl⟩ | ⟨hji',hjk',h'⟩
  ·rfl
  ·exact absurd (hm.inj k j' _ _ b hO h' hb hb').symm hjk'
  ·exact absurd (hm.inj j k _ _ b h hO hb hb') hjk
  ·exact hm.inj j j' q q' b h h' hb hb'
 ·rcases e1 j q hj with ⟨rfl,rfl⟩ | ⟨hji,hjk,h⟩
  ·rcases hm.base k _ b hO hb with h | ⟨h,r,hr,hr2,hr3⟩
   ·exact .inl h
   ·have:=h6 (by omega)
    exact .inr ⟨by omega,r,hr,by omega,hr3⟩
  ·exact hm.base j q b h hb
 ·rcases e1 j q hj with ⟨rfl,rfl⟩ | ⟨hji,hjk,h⟩
  ·rw [hm.sz k _ hO,hsz]
  ·exact hm.sz j q h
 ·rcases e1 r.1 q hq with ⟨h,_⟩ | ⟨hji,hjk,h⟩
  ·exact absurd hr7 (by rw [h]; exact hi7)
  ·exact hm.refs r hr hr7 q h
 ·show VR w c.B (okb c.ok0 c.B _) _ (look (put S.sl t (.own id n lo hi)) t') (tval a t')
  rw [look_put]
  split
  ·rename_i htt
   subst htt
   exact .own id n lo hi p _ (upd_same _ _ _) hp hlo hhi hvw
  ·exact (hs t').tr ht (fun j hj=>by rw [hj]; exact mentions_of hfr t')

theorem cell_ok (hF:∀ r∈c.refs,6≤r.1 % 8) {t id k n:Nat} {es:List DV} {S:LS} {a:Act} {w:World} (h:St c N S a w) (hl:look S.sl t=.own k n 0 n) (hk:lookO S.ob k=some es) (hk4:k % 8 < 5) (hi5:id % 8=5) (hnew:lookO S.ob id=none)
  (hsz:szId k=szId id) (hn:es.length=n) (hfr:Env.mentions id S.sl=false):St c N { sl:=put S.sl t (.cel id n),ob:=putO (dropO S.ob k) id es } a w:=by
 have hki:k≠id:=fun e=>by omega
 have hi7:id % 8≠7:=by omega
 obtain ⟨O,hm,hs,h1,h2⟩:=h
 have hv:=hs t
 rw [hl] at hv
 obtain ⟨p,hO,hp,hlo,hhi,hvw,hor⟩:=hv.own_cur hm hk hn
 have e1:∀ j q,upd (upd O k none) id (some p) j=some q→(j=id∧q=p)∨(j≠id∧j≠k∧O j=some q):=by
  intro j q hj
  by_cases hji:j=id
  ·subst hji; rw [upd_same] at hj; injection hj with hj; exact .inl ⟨rfl,hj.symm⟩
  ·rw [upd_other _ _ hji] at hj
   by_cases hjk:j=k
   ·subst hjk; rw [upd_same] at hj; cases hj
   ·rw [upd_other _ _ hjk] at hj; exact .inr ⟨hji,hjk,hj⟩
 have hok:∀ b,okb c.ok0 c.B O b→okb c.ok0 c.B (upd (upd O k none) id (some p)) b:=by
  intro b hb
  refine ⟨hb.1,fun j q hj=>?_⟩
  rcases e1 j q hj with ⟨_,rfl⟩ | ⟨_,_,h⟩
  ·exact hb.2 k _ hO
  ·exact hb.2 j q h
 have ht:Tr c.ok0 c.B (fun j=>j=id) w O w (upd (upd O k none) id (some p)):=by
  refine ⟨Nat.le_refl _,fun _ _ _=>rfl,fun b hb _=>hok b hb,fun j q hN hj=>.inl ?_,fun j q hj5 hj=>⟨q,?_,.inl rfl⟩⟩
  rcases e1 j q hj with ⟨h,_⟩ | ⟨_,_,h⟩
  ·exact absurd h hN
  ·exact h
  ·have hO0:O id=none:=(hm.dom id).2 hnew
   rw [upd_other _ _ (fun e=>by rw [e,hO0] at hj; cases hj),upd_other _ _ (fun e=>by omega)]
   exact hj
 refine ⟨upd (upd O k none) id (some p),⟨hm.os,hm.tape,hm.output,hm.size,hm.frame,fun j=>?_,fun j q l hj hjl=>?_,fun j j' q q' b hj hj' hb hb'=>?_,fun j q b hj hb=>?_,fun j q hj=>?_,fun r hr hr7 q hq=>?_,hm.glob⟩,fun t'=>?_,h1,h2⟩
 ·rw [lookO_put,lookO_drop]
  by_cases hji:j=id
  ·simp [hji,upd]
  ·by_cases hjk:j=k
   ·subst hjk; simp [hji,upd]
   ·simp only [upd,hji,hjk,if_false]; exact hm.dom j
 ·rw [lookO_put,lookO_drop] at hjl
  rcases e1 j q hj with ⟨rfl,rfl⟩ | ⟨hji,hjk,h⟩
  ·simp only [if_true] at hjl
   injection hjl with hjl
   subst hjl
   exact hor.tr ht (fun _ _=>rfl)
  ·rw [if_neg hji,if_neg hjk] at hjl
   exact (hm.obj j q l h hjl).tr ht (fun _ _=>rfl)
 ·rcases e1 j q hj with ⟨rfl,rfl⟩ | ⟨hji,hjk,h⟩ <;> rcases e1 j' q' hj' with ⟨rfl,rfl⟩ | ⟨hji',hjk',h'⟩
  ·rfl
  ·exact absurd (hm.inj k j' _ _ b hO h' hb hb').symm hjk'
  ·exact absurd (hm.inj j k _ _ b h hO hb hb') hjk
  ·exact hm.inj j j' q q' b h h' hb hb'
 ·rcases e1 j q hj with ⟨rfl,rfl⟩ | ⟨hji,hjk,h⟩
  ·rcases hm.base k _ b hO hb with h | ⟨h,r,hr,hr2,hr3⟩
   ·exact .inl h
   ·omega
  ·exact hm.base j q b h hb
 ·rcases e1 j q hj with ⟨rfl,rfl⟩ | ⟨hji,hjk,h⟩
  ·rw [hm.sz k _ hO,hsz]
  ·exact hm.sz j q h
 ·rcases e1 r.1 q hq with ⟨h,_⟩ | ⟨hji,hjk,h⟩
  ·exact absurd hr7 (by rw [h]; exact hi7)
  ·exact hm.refs r hr hr7 q h
 ·show VR w c.B (okb c.ok0 c.B _) _ (look (put S.sl t (.cel id n)) t') (tval a t')
  rw [look_put]
  split
  ·rename_i htt
   subst htt
   obtain ⟨A,cap,hv1,_,hv3,_,hv5,_⟩:=hvw
   have hve:=hv5 rfl hp.symm
   rw [hv1] at hve ⊢
   exact .cr _ _ (.cel id n A _ cap hv3 ⟨hi5,p,upd_same _ _ _,.inr ⟨hp,hve⟩⟩)
  ·exact (hs t').tr ht (fun j hj=>by rw [hj]; exact mentions_of hfr t')

theorem noCelL_all:∀ ds:List DV,noCelL ds=ds.all DV.noCel
 | []=>rfl
 | d :: ds=>by simp [noCelL,noCelL_all ds]
theorem noCel_cells {e:DV} (h:e.noCel=true):∀ c∈e.cells,c.noCel=true:=by
 intro c hc
 cases e with
 | st cs =>
  simp only [DV.cells] at hc
  simp only [DV.noCel,noCelL_all,List.all_eq_true] at h
  exact h c hc
 | _=>simp only [DV.cells,List.mem_singleton] at hc; subst hc; exact h
theorem noCel_flat {es:List DV} (h:noCelL es=true):∀ c∈flat es,c.noCel=true:=by
 rw [noCelL_all,List.all_eq_true] at h
 intro c hc
 simp only [flat,List.mem_flatMap] at hc
 obtain ⟨e,he,hce⟩:=hc
 exact noCel_cells (h e he) c hce
theorem CR.noc {w:World} {B:Nat} {ok ok':OkT} {d:DV} {v:Value} (h:CR w B ok d v) (hd:d.noCel=true) (hok:∀ b,ok b→ok' b):CR w B ok' d v:=by
 induction h with
 | i n=>exact .i n
 | y n hn=>exact .y n hn
 | b x=>exact .b x
 | s l=>exact .s l
 | w x=>exact .w x
 | q n hn=>exact .q n hn
 | r n=>exact .r n
 | nf=>exact .nf
 | cel j n A m cap hm h=>simp [DV.noCel] at hd
 | wild A m cap hm=>exact .wild A m cap hm
 | sl0 p A cap hm=>exact .sl0 p A cap hm
 | sl p es ad n cap sz xs hn h0 hc hm hsz hok1 hlt hold hnew hrow hl hcell hrec ih =>
  simp only [DV.noCel] at hd
  exact .sl p es ad n cap sz xs hn h0 hc hm hsz (hok _ hok1) hlt hold hnew hrow hl hcell (fun j c u hc hu=>ih j c u hc hu (noCel_flat hd c (List.mem_of_getElem? hc)))
 | fn f cs vs hl ads yss hp hq hr ihq ihr =>
  simp only [DV.noCel,noCelL_all,List.all_eq_true] at hd
  refine .fn f cs vs hl ads yss (fun j e u h1 h2=>?_) (fun j e i c x h1 h2 h3=>ihq j e i c x h1 h2 h3 ?_) (fun j c u h1 h2 h3=>ihr j c u h1 h2 h3 (hd c (List.mem_of_getElem? h1)))
  ·obtain ⟨q1,q2,q3,q4,q5⟩:=hp j e u h1 h2
   exact ⟨q1,hok _ q2,q3,q4,q5⟩
  ·have:=hd _ (List.mem_of_getElem? h1)
   simp only [DV.noCel] at this
   exact noCel_cells this c (List.mem_of_getElem? h2)
theorem CRs.noc {w:World} {B:Nat} {ok ok':OkT} {cs:List DV} {xs:List Value} (h:CRs w B ok cs xs) (hd:∀ c∈cs,c.noCel=true) (hok:∀ b,ok b→ok' b):CRs w B ok' cs xs :=
 ⟨h.1,fun j c u hc hu=>(h.2 j c u hc hu).noc (hd c (List.mem_of_getElem? hc)) hok⟩
theorem AR.noc {w:World} {B:Nat} {ok ok':OkT} {d:DV} {v:Value} (h:AR w B ok d v) (hd:d.noCel=true) (hok:∀ b,ok b→ok' b):AR w B ok' d v:=by
 rcases h with h | ⟨e,ad,xs,rfl,rfl,h1,h2,h3,h4⟩
 ·exact .inl (h.noc hd hok)
 ·exact .inr ⟨e,ad,xs,rfl,rfl,hok _ h1,h2,h3,h4.noc (noCel_cells hd) hok⟩
theorem OR.noc {w:World} {B:Nat} {ok ok':OkT} {p:PO} {es:List DV} (h:OR w B ok p es) (hd:noCelL es=true) (hok:∀ b,ok b→ok' b):OR w B ok' p es:=by
 obtain ⟨xs,hr,hc⟩:=h.row
 exact ⟨h.len,h.pos,h.wid,xs,hr,hc.noc (noCel_flat hd) hok⟩
theorem VR.noc {w:World} {B:Nat} {ok ok':OkT} {O:OM} {j:Nat} {d:DV} {v:Value} (h:VR w B ok O d v) (hd:d.noCel=true) (hok:∀ b,ok b→ok' b):VR w B ok' (upd O j none) d v:=by
 have sub:∀ {k:Nat} {p:PO},upd O j none k=some p→O k=some p:=fun {k p} h=>by
  by_cases e:k=j
  ·rw [e,upd_same] at h; cases h
  ·rwa [upd_other O _ e] at h
 cases h with
 | cr d v h=>exact .cr _ _ (h.noc hd hok)
 | st cs vs h=>exact .st _ _ (h.noc (by simp only [DV.noCel,noCelL_all,List.all_eq_true] at hd; exact hd) hok)
 | fn f cs vs h =>
  simp only [DV.noCel,noCelL_all,List.all_eq_true] at hd
  exact .fn _ _ _ ⟨h.1,fun j d u h1 h2=>(h.2 j d u h1 h2).noc (hd d (List.mem_of_getElem? h1)) hok⟩
 | nil=>exact .nil
 | np=>exact .np
 | und=>exact .und
 | dead v=>exact .dead v
 | adr d ad xs hok1 hlt hcell h=>exact .adr d ad xs (hok _ hok1) hlt hcell (h.noc (noCel_cells hd) hok)
 | own k n lo hi p v hO hn h1 h2 hv =>
  by_cases e:k=j
  ·obtain ⟨A,c,rfl,_⟩:=hv
   exact .ownS k n lo hi A c (fun p' hp'=>by rw [e,upd_same] at hp'; cases hp')
  ·exact .own k n lo hi p v (by rw [upd_other O _ e]; exact hO) hn h1 h2 hv
 | ownS k n lo hi A cap hO=>exact .ownS k n lo hi A cap (fun p hp=>hO p (sub hp))
 | oad k n a o p g hO hn hg =>
  by_cases e:k=j
  ·exact .oadS k n a o _ (fun p' hp'=>by rw [e,upd_same] at hp'; cases hp')
  ·exact .oad k n a o p g (by rw [upd_other O _ e]; exact hO) hn hg
 | oadS k n a o ad hO=>exact .oadS k n a o ad (fun p hp=>hO p (sub hp))
 | tup ds vs hl hnt h=>simp [DV.noCel] at hd
theorem noCelE_look:∀ {e:Env} (_:noCelE e=true) (k:Nat),(look e k).noCel=true
 | [],_,_=>rfl
 | (j,d) :: r,h,k=>by
  simp only [noCelE,Bool.and_eq_true] at h
  simp only [look]
  split
  ·exact h.1
  ·exact noCelE_look h.2 k
theorem noCelO_look {k:Nat}:∀ {ob:OB} (_:noCelO k ob=true) {x:Nat} {es:List DV},lookO ob x=some es→x≠k→noCelL es=true
 | [],_,x,es,he,_=>by cases he
 | (j,d) :: r,h,x,es,he,hx=>by
  simp only [noCelO,Bool.and_eq_true,Bool.or_eq_true,beq_iff_eq] at h
  simp only [lookO] at he
  split at he
  ·rename_i hj
   injection he with he
   subst he
   rcases h.1 with h1 | h1
   ·exact absurd (hj.symm.trans h1) hx
   ·exact h1
  ·exact noCelO_look h.2 he hx
/-- The row that grew in the last cell is done. -/
theorem shut_ok {t k n j m:Nat} {es rs:List DV} {S:LS} {a:Act} {w:World} (h:St c N S a w) (hk:lookO S.ob k=some es) (hl:es.getLast?=some (.cel j m)) (hj:lookO S.ob j=some rs) (h7:k % 8≠7) (h5:k % 8≠5)
  (hm':rs.length=m) (hE:noCelE S.sl=true) (hO:noCelO k S.ob=true) (hD:noCelL es.dropLast=true):St c N { S with ob:=dropO (putO S.ob k (es.dropLast++[.sl 1 rs])) j } a w:=by
 obtain ⟨O,hm,hs,h1,h2⟩:=h
 obtain ⟨p,hOk,ho⟩:=hm.get hk
 obtain ⟨q,hOj,hoj⟩:=hm.get hj
 have hes:es=es.dropLast++[.cel j m]:=by
  have hne:es≠[]:=fun e=>by rw [e] at hl; cases hl
  have:=List.dropLast_concat_getLast hne
  rw [List.getLast?_eq_some_getLast hne] at hl
  injection hl with hl
  rw [← hl]; exact this.symm
 have hok:∀ b,okb c.ok0 c.B O b→okb c.ok0 c.B (upd O j none) b:=fun b hb=>⟨hb.1,fun k p hp=>by
  by_cases e:k=j
  ·rw [e,upd_same] at hp; cases hp
  ·rw [upd_other O _ e] at hp; exact hb.2 k p hp⟩
 obtain ⟨xs,hr,hcs⟩:=ho.row
 have hfl:flat es=flat es.dropLast++[.cel j m]:=by
  conv=>lhs; rw [hes]
  simp [flat,DV.cells]
 have hlen:=hcs.1
 rw [hfl,List.length_append,List.length_singleton] at hlen
 obtain ⟨u,hu⟩:∃ u,xs[(flat es.dropLast).length]?=some u:=⟨_,List.getElem?_eq_getElem (by omega)⟩
 have hcu:=hcs.2 (flat es.dropLast).length (.cel j m) u (by rw [hfl,List.getElem?_append_right (Nat.le_refl _),Nat.sub_self]; rfl) hu
 have hj5:j % 8=5:=by
  cases hcu with
  | cel _ _ A m' cap hmx h=>exact h.1
 have hjk:j≠k:=fun e=>h5 (by rw [← e]; exact hj5)
 have hue:u=q.hv:=by
  cases hcu with
  | cel _ _ A m' cap hmx h =>
   obtain ⟨_,p',hp',hc⟩:=h
   rw [hOj] at hp'
   injection hp' with hp'
   subst hp'
   have:=hoj.len
   rcases hc with hc | ⟨_,hc⟩
   ·omega
   ·exact hc
 have hrs:noCelL rs=true:=noCelO_look hO hj hjk
 obtain ⟨ys,hry,hcy⟩:=hoj.row
 have hnewCR:CR w c.B (okb c.ok0 c.B (upd O j none)) (.sl 1 rs) u:=by
  rw [hue]
  rcases hry.2 with ⟨hv,h0⟩ | ⟨g,cap,cur,hv,hx0,hb,hx1,hx2,hx3⟩
  ·have:rs=[]:=List.eq_nil_of_length_eq_zero (by have:=hoj.len; omega)
   rw [this,hv]
   exact .sl0 1 none 0 (Nat.zero_le _)
  ·have hg:q.hv.ownBlock=some g:=by rw [hv]; rfl
   by_cases h0:0 < q.len
   ·have hge:c.B≤g:=by
     rcases hm.base j q g hOj hg with h | ⟨h,_⟩
     ·exact h
     ·omega
    have key:CR w c.B (okb c.ok0 c.B (upd O j none)) (.sl 1 rs) (.slice (some ⟨g,0,none⟩) q.len cap) :=
     .sl 1 rs ⟨g,0,none⟩ q.len cap q.sz ys hoj.len.symm h0 hx1 hx2 hoj.wid ⟨fun hlt=>absurd (show g < c.B from hlt) (by omega),fun x y hxy hyg=>by
      by_cases e:x=j
      ·rw [e,upd_same] at hxy; cases hxy
      ·rw [upd_other O _ e] at hxy
       exact e (hm.inj x j y q g hxy hOj hyg hg)⟩ (hm.lt hOj hg) (fun h=>by cases h) (fun _=>hge) (fun _=>⟨q.ty,by rw [← hv]; exact hry⟩) hcy.1 (fun i x hx=>by
       have:=hry.cells hg i x hx
       rw [add_plain'] at this ⊢
       simpa using this) (hcy.noc (noCel_flat hrs) hok).2
    rw [hv]; exact key
   ·have h00:q.len=0:=by omega
    have:rs=[]:=List.eq_nil_of_length_eq_zero (by have:=hoj.len; omega)
    rw [this,hv,h00]
    exact .sl0 1 _ cap hx2
 refine ⟨upd O j none,⟨hm.os,hm.tape,hm.output,hm.size,hm.frame,fun x=>?_,fun x px l hx hxl=>?_,fun x x' px px' b hx hx' hb hb'=>?_,fun x px b hx hb=>?_,fun x px hx=>?_,fun r hr hr7 px hx=>?_,hm.glob⟩,fun t'=>(hs t').noc (noCelE_look hE t') hok,h1,h2⟩
 ·rw [lookO_drop,lookO_put]
  by_cases e:x=j
  ·rw [if_pos e,e]; simp [upd_same]
  ·rw [if_neg e,upd_other O _ e]
   by_cases e':x=k
   ·rw [if_pos e',e',hOk]; simp
   ·rw [if_neg e']; exact hm.dom x
 ·rw [lookO_drop,lookO_put] at hxl
  by_cases e:x=j
  ·rw [if_pos e] at hxl; cases hxl
  ·rw [if_neg e] at hxl
   rw [upd_other O _ e] at hx
   by_cases e':x=k
   ·rw [if_pos e'] at hxl
    injection hxl with hxl
    subst hxl
    rw [e',hOk] at hx
    injection hx with hx
    subst hx
    have hw1:p.sz=1:=by
     have:=ho.wid (.cel j m) (by rw [hes]; simp)
     simpa [DV.cells] using this.symm
    refine ⟨by rw [ho.len]; have:=congrArg List.length hes; rw [List.length_append] at this ⊢; exact this,ho.pos,fun d hd=>?_,xs,hr,?_⟩
    ·rcases List.mem_append.1 hd with hd | hd
     ·exact ho.wid d (by rw [hes]; exact List.mem_append_left _ hd)
     ·rw [List.mem_singleton.1 hd,hw1]; rfl
    ·have hf2:flat (es.dropLast++[.sl 1 rs])=flat es.dropLast++[.sl 1 rs]:=by simp [flat,DV.cells]
     rw [hf2]
     refine ⟨by rw [hcs.1,hfl]; simp,fun i d x hd hx=>?_⟩
     by_cases hi:i < (flat es.dropLast).length
     ·rw [List.getElem?_append_left hi] at hd
      exact (hcs.2 i d x (by rw [hfl,List.getElem?_append_left hi]; exact hd) hx).noc (noCel_flat hD d (List.mem_of_getElem? hd)) hok
     ·rw [List.getElem?_append_right (by omega)] at hd
      have hi0:i - (flat es.dropLast).length=0:=by
       have:=(List.getElem?_eq_some_iff.1 hd).1
       simp at this; omega
      rw [hi0] at hd
      simp only [List.getElem?_cons_zero,Option.some.injEq] at hd
      subst hd
      have:i=(flat es.dropLast).length:=by omega
      rw [this,hu] at hx
      injection hx with hx
      subst hx
      exact hnewCR
   ·rw [if_neg e'] at hxl
    exact (hm.obj x px l hx hxl).noc (noCelO_look hO hxl e') hok
 ·have sub:∀ {x:Nat} {px:PO},upd O j none x=some px→O x=some px:=fun {x px} h=>by
   by_cases e:x=j
   ·rw [e,upd_same] at h; cases h
   ·rwa [upd_other O _ e] at h
  exact hm.inj x x' px px' b (sub hx) (sub hx') hb hb'
 ·by_cases e:x=j
  ·rw [e,upd_same] at hx; cases hx
  ·rw [upd_other O _ e] at hx; exact hm.base x px b hx hb
 ·by_cases e:x=j
  ·rw [e,upd_same] at hx; cases hx
  ·rw [upd_other O _ e] at hx; exact hm.sz x px hx
 ·by_cases e:r.1=j
  ·rw [e,upd_same] at hx; cases hx
  ·rw [upd_other O _ e] at hx; exact hm.refs r hr hr7 px hx

theorem ghost_ok {g:Ghost} {S S1:LS} {a:Act} {w:World} (hF:∀ r∈c.refs,6≤r.1 % 8) (h:St c N S a w) (he:ghostL g S=some S1):St c N S1 a w:=by
 cases g with
 | shut t =>
  simp only [ghostL] at he
  split at he
  ·split at he
   ·rename_i es hes
    split at he
    ·split at he
     ·rename_i j m hlast
      split at he
      ·rename_i rs hrs
       split at he
       ·rename_i hc
        injection he with he
        subst he
        exact shut_ok (t:=t) (n:=0) h hes hlast hrs hc.1 hc.2.1 hc.2.2.1 hc.2.2.2.1 hc.2.2.2.2.1 hc.2.2.2.2.2
       ·cases he
      ·cases he
     ·injection he with he; subst he; exact h
    ·cases he
   ·cases he
  ·cases he
 | cell_ t id =>
  simp only [ghostL] at he
  split at he
  ·rename_i k n h0 hl
   split at he
   ·rename_i es hk
    split at he
    ·rename_i hc
     injection he with he
     subst he
     obtain ⟨c1,c2,c3,c4,c5,c6,c7⟩:=hc
     subst c5
     exact cell_ok hF h hl hk c1 c2 c6 c3 c4 c7
    ·cases he
   ·cases he
  ·cases he
 | close_ t =>
  simp only [ghostL] at he
  split at he
  ·rename_i k n hl
   split at he
   ·rename_i c0 hes
    split at he
    ·rename_i hk7
     injection he with he
     subst he
     obtain ⟨O,hm,hs,h1,h2⟩:=h
     have hv:=hs t
     rw [hl] at hv
     have hset:capArg S.ob (.oad k n 0 0)=some (.adr c0,dropO S.ob k):=by simp only [capArg,hes,if_pos hk7]
     obtain ⟨O',hm',ht,hcr⟩:=capArg_ok hm hv hset
     refine ⟨O',hm',fun t'=>?_,h1,h2⟩
     show VR w c.B (okb c.ok0 c.B O') O' (look (put S.sl t (.adr c0)) t') (tval a t')
     rw [look_put]
     split
     ·rename_i htt
      subst htt
      exact hcr.vr
     ·exact (hs t').tr ht (fun _ h=>h.elim)
    ·cases he
   ·cases he
  ·cases he
 | freeze t =>
  simp only [ghostL] at he
  split at he
  ·rename_i k n lo hi hl
   split at he
   ·rename_i es hes
    split at he
    ·cases he
    ·rename_i hk7
     injection he with he
     subst he
     obtain ⟨O,hm,hs,h1,h2⟩:=h
     have hv:=hs t
     rw [hl] at hv
     have hset:settle S.ob (.own k n lo hi)=some (.sl (wholeP n lo hi) es,dropO S.ob k):=by simp only [settle,hes,if_neg hk7]
     obtain ⟨O',hm',ht,_,hcr,_,_⟩:=settle_ok hm hv hset
     refine ⟨O',hm',fun t'=>?_,h1,h2⟩
     show VR w c.B (okb c.ok0 c.B O') O' (look (put S.sl t (.sl (wholeP n lo hi) es)) t') (tval a t')
     rw [look_put]
     split
     ·rename_i htt
      subst htt
      rcases hcr with ⟨cs,hcs⟩ | hcr
      ·cases hcs
      ·exact .cr _ _ hcr
     ·exact (hs t').tr ht (fun _ h=>h.elim)
   ·cases he
  ·cases he
 | rename t id =>
  simp only [ghostL] at he
  split at he
  ·rename_i k n lo hi hl
   split at he
   ·injection he with he; subst he; exact h
   ·rename_i hki
    split at he
    ·rename_i es hk
     split at he
     ·rename_i hc
      injection he with he
      subst he
      exact rename_ok hF h hl hki hk hc.1 hc.2.1 hc.2.2.1 hc.2.2.2.1 hc.2.2.2.2.1 hc.2.2.2.2.2.1 hc.2.2.2.2.2.2.1 hc.2.2.2.2.2.2.2
     ·cases he
    ·cases he
  ·injection he with he; subst he; exact h
 | promote t id =>
  simp only [ghostL] at he
  split at he
  ·rename_i e es hl
   split at he
   ·rename_i hc
    injection he with he
    subst he
    obtain ⟨h7,_,hpos,hsz,hfr,hE,hO',hold⟩:=hc
    exact promote_ok hF h hl h7 hpos hsz hfr hE hO' hold
   ·cases he
  ·cases he

/-- A piece of code is as it is said to be. -/
def Snd (P:Program) (N:Nat) (code:Code) (f:LS→Option (Ex×LS)):Prop:=∀ (c:Cx) (r:Option Nat) (m:Nat) (S S1:LS) (x:Ex) (a:Act) (w:World) (Q:Exit→Act→World→Prop),(∀ r∈c.refs,6≤r.1 % 8)→St c N S a w→f S=some (x,S1)→(∀ a' w',St c N S1 a' w'→Q x.to a' w')→code.wpIn (Wd r) m P Q a w
/-- A range over a row from its end on is as it is said to be,if its body is. -/
def BackSound (P:Program):Prop:=∀ (N:Nat) (c:Cx) (m:Nat) (fs:List Nat) (g i x:Nat) (slots:List Nat) (ls:List LOp) (id:Nat) (ops:Array Oper) (body:Code) (f:LS→Option (Ex×LS)) (es:List DV) (S S1:LS) (a:Act) (w:World) (Q:Exit→Act→World→Prop),
 fs.all (backB P)=true→(i < N∧i < 1048576)→(x < N∧x < 1048576)→g < 1048576→(∀ o∈ops.toList,Opx o.dst N=true)→viewOps P ops ops.toList=some ls→Snd P N body f→(∀ s∈slots,s < 1048576)→(∀ r∈c.refs,6≤r.1 % 8)→St c N S a w →
 backRow fs (look S.sl g)=some es→backL (roundL f i x slots ls) es.reverse S=some S1→(∀ a' w',St c N S1 a' w'→Q .normal a' w')→(Code.rangeFunc (.tmp g) #[i,x] (.region id ops false) body).wpIn (Wd none) m P Q a w
theorem exec_ok (hΓ:CallOk P Γ) {dc:Array Oper→Bool} (hD:DrawOk P Γ dc) (hB:BackSound P) {n:Nat}:∀ (lc:LC) (code:Code) {c:Cx} {r:Option Nat} {m:Nat} {S S1:LS} {x:Ex} {a:Act} {w:World} {Q:Exit→Act→World→Prop},viewC P code=some (strip lc)→okC N dc code=true →
  (r=none∨lc.noBack=true)→(∀ r∈c.refs,6≤r.1 % 8)→St c N S a w→exec Γ n lc S=some (x,S1)→(∀ a' w',St c N S1 a' w'→Q x.to a' w')→code.wpIn (Wd r) m P Q a w
 | .ghost g lc,code,c,r,m,S,S1,x,a,w,Q,hv,hok,hb,hF,hs,he,hQ=>by
  simp only [exec] at he
  split at he
  ·rename_i S2 h2
   exact exec_ok hΓ hD hB lc code hv hok hb hF (ghost_ok hF hs h2) he hQ
  ·cases he
 | .void,code,c,r,m,S,S1,x,a,w,Q,hv,hok,hb,hF,hs,he,hQ=>by
  simp only [exec] at he
  cases he
 | .skip,code,c,r,m,S,S1,x,a,w,Q,hv,hok,hb,hF,hs,he,hQ=>by
  simp only [exec,Option.some.injEq,Prod.mk.injEq] at he
  obtain ⟨rfl,rfl⟩:=he
  cases code <;> simp only [viewC,strip] at hv <;> try (repeat' (first | (simp at hv; done) | (exact (viewB_off hv rfl).elim) | split at hv))
  exact wpIn_skip (hQ _ _ hs)
 | .ret,code,c,r,m,S,S1,x,a,w,Q,hv,hok,hb,hF,hs,he,hQ=>by
  simp only [exec,Option.some.injEq,Prod.mk.injEq] at he
  obtain ⟨rfl,rfl⟩:=he
  cases code <;> simp only [viewC,strip] at hv <;> try (repeat' (first | (simp at hv; done) | (exact (viewB_off hv rfl).elim) | split at hv))
  exact wpIn_ret (hQ _ _ hs)
 | .exit id,code,c,r,m,S,S1,x,a,w,Q,hv,hok,hb,hF,hs,he,hQ=>by
  simp only [exec,Option.some.injEq,Prod.mk.injEq] at he
  obtain ⟨rfl,rfl⟩:=he
  cases code <;> simp only [viewC,strip] at hv <;> try (repeat' (first | (simp at hv; done) | (exact (viewB_off hv rfl).elim) | split at hv))
  rename_i id'
  simp only [Option.some.injEq,LC.exit.injEq] at hv
  subst hv
  exact wpIn_exit (hQ _ _ hs)
 | .region d ls kill,code,c,r,m,S,S1,x,a,w,Q,hv,hok,hb,hF,hs,he,hQ=>by
  simp only [exec] at he
  cases hr:regionL Γ d ls kill S with
  | none=>rw [hr] at he; simp at he
  | some S2 =>
   rw [hr] at he
   simp only [Option.map_some,Option.some.injEq,Prod.mk.injEq] at he
   obtain ⟨rfl,rfl⟩:=he
   unfold regionL at hr
   split at hr
   ·rename_i S3 h3
    injection hr with hr
    subst hr
    cases code <;> simp only [viewC,strip] at hv <;> try (repeat' (first | (simp at hv; done) | (exact (viewB_off hv rfl).elim) | split at hv))
    rename_i id ops draw _ ls' hls
    simp only [Option.some.injEq,LC.region.injEq] at hv
    obtain ⟨rfl,rfl,_⟩:=hv
    simp only [okC,Bool.and_eq_true,List.all_eq_true,Bool.or_eq_true,Bool.not_eq_true'] at hok
    cases draw with
    | false=>exact wpIn_region_list (runL_ok hΓ hF hls hok.1 hs h3 (fun a' w' h=>hQ _ _ (h.drop kill)))
    | true=>exact hD r m c N id ops ls' S S3 a w Q (by rcases hok.2 with h | h; cases h; exact h) hF hls hok.1 hs h3 (fun a' w' h=>hQ _ _ (h.drop kill))
   ·cases hr
 | .seq l1 l2,code,c,r,m,S,S1,x,a,w,Q,hv,hok,hb,hF,hs,he,hQ=>by
  cases code <;> simp only [viewC,strip] at hv <;> try (repeat' (first | (simp at hv; done) | (exact (viewB_off hv rfl).elim) | split at hv))
  rename_i c1 c2 _ x1 hx1 _ x2 hx2
  simp only [Option.some.injEq,LC.seq.injEq] at hv
  obtain ⟨rfl,rfl⟩:=hv
  simp only [okC,Bool.and_eq_true] at hok
  simp only [exec] at he
  cases h1:exec Γ n l1 S with
  | none=>rw [h1] at he; cases he
  | some p =>
   obtain ⟨x',S2⟩:=p
   rw [h1] at he
   have hb1:r=none∨l1.noBack=true:=hb.imp_right fun h=>(by simp only [LC.noBack,Bool.and_eq_true] at h; exact h.1)
   have hb2:r=none∨l2.noBack=true:=hb.imp_right fun h=>(by simp only [LC.noBack,Bool.and_eq_true] at h; exact h.2)
   refine wpIn_seq (exec_ok hΓ hD hB l1 c1 hx1 hok.1 hb1 hF hs h1 (fun a' w' h=>?_))
   cases x' with
   | normal=>exact exec_ok hΓ hD hB l2 c2 hx2 hok.2 hb2 hF h he hQ
   | exit id =>
    simp only [Option.some.injEq,Prod.mk.injEq] at he
    obtain ⟨rfl,rfl⟩:=he
    exact hQ _ _ h
   | ret =>
    simp only [Option.some.injEq,Prod.mk.injEq] at he
    obtain ⟨rfl,rfl⟩:=he
    exact hQ _ _ h
 | .cond q kill l1 l2,code,c,r,m,S,S1,x,a,w,Q,hv,hok,hb,hF,hs,he,hQ=>by
  cases code <;> simp only [viewC,strip] at hv <;> try (repeat' (first | (simp at hv; done) | (exact (viewB_off hv rfl).elim) | split at hv))
  rename_i cc c1 c2 _ q' hq _ x1 hx1 _ x2 hx2
  simp only [Option.some.injEq,LC.cond.injEq] at hv
  obtain ⟨rfl,_,rfl,rfl⟩:=hv
  simp only [okC,Bool.and_eq_true] at hok
  simp only [exec] at he
  obtain ⟨O,hm,hsr,_,_⟩:=id hs
  have hcv:=viewOpd_ok hsr hq
  have hb1:r=none∨l1.noBack=true:=hb.imp_right fun h=>(by simp only [LC.noBack,Bool.and_eq_true] at h; exact h.1)
  have hb2:r=none∨l2.noBack=true:=hb.imp_right fun h=>(by simp only [LC.noBack,Bool.and_eq_true] at h; exact h.2)
  split at he
  ·rename_i hb
   rw [hb] at hcv
   exact wpIn_cond_true hcv.bool (exec_ok hΓ hD hB l1 c1 hx1 hok.1 hb1 hF (hs.drop kill) he hQ)
  ·rename_i hb
   rw [hb] at hcv
   exact wpIn_cond_false hcv.bool (exec_ok hΓ hD hB l2 c2 hx2 hok.2 hb2 hF (hs.drop kill) he hQ)
  ·cases he
 | .block id l,code,c,r,m,S,S1,x,a,w,Q,hv,hok,hb,hF,hs,he,hQ=>by
  cases code <;> simp only [viewC,strip] at hv <;> try (repeat' (first | (simp at hv; done) | (exact (viewB_off hv rfl).elim) | split at hv))
  rename_i id' c1
  simp only [Option.map_eq_some_iff,LC.block.injEq] at hv
  obtain ⟨x1,hx1,rfl,rfl⟩:=hv
  simp only [okC] at hok
  simp only [exec] at he
  cases h1:exec Γ n l S with
  | none=>rw [h1] at he; cases he
  | some p =>
   obtain ⟨x',S2⟩:=p
   rw [h1] at he
   refine wpIn_block (exec_ok hΓ hD hB l c1 hx1 hok hb hF hs h1 (fun a' w' h=>?_))
   cases x' with
   | normal =>
    simp only [Option.some.injEq,Prod.mk.injEq] at he
    obtain ⟨rfl,rfl⟩:=he
    exact hQ _ _ h
   | exit j =>
    simp only at he
    split at he
    ·rename_i hj
     simp only [Option.some.injEq,Prod.mk.injEq] at he
     obtain ⟨rfl,rfl⟩:=he
     show Exit.inBlock id' Q (.exit j) a' w'
     simp only [Exit.inBlock,hj,if_true]
     exact hQ _ _ h
    ·rename_i hj
     simp only [Option.some.injEq,Prod.mk.injEq] at he
     obtain ⟨rfl,rfl⟩:=he
     show Exit.inBlock id' Q (.exit j) a' w'
     simp only [Exit.inBlock,hj,if_false]
     exact hQ _ _ h
   | ret =>
    simp only [Option.some.injEq,Prod.mk.injEq] at he
    obtain ⟨rfl,rfl⟩:=he
    exact hQ _ _ h
 | .loop l,code,c,r,m,S,S1,x,a,w,Q,hv,hok,hb,hF,hs,he,hQ=>by
  cases code <;> simp only [viewC,strip] at hv <;> try (repeat' (first | (simp at hv; done) | (exact (viewB_off hv rfl).elim) | split at hv))
  rename_i c1
  simp only [Option.map_eq_some_iff,LC.loop.injEq] at hv
  obtain ⟨x1,hx1,rfl⟩:=hv
  simp only [okC] at hok
  simp only [exec] at he
  have key:∀ (q:Nat) {S:LS} {a:Act} {w:World},St c N S a w→iter q (exec Γ n l) S=some (x,S1)→Code.roundsIn (Wd r) m P c1 Q q a w:=by
   intro q
   induction q with
   | zero=>intro S a w _ h; cases h
   | succ q ih =>
    intro S a w hs h
    rw [roundsIn_succ]
    simp only [iter] at h
    cases h1:exec Γ n l S with
    | none=>rw [h1] at h; cases h
    | some p =>
     obtain ⟨x',S2⟩:=p
     rw [h1] at h
     refine exec_ok hΓ hD hB l c1 hx1 hok hb hF hs h1 (fun a' w' h'=>?_)
     cases x' with
     | normal=>exact ih h' h
     | exit id =>
      simp only [Option.some.injEq,Prod.mk.injEq] at h
      obtain ⟨rfl,rfl⟩:=h
      exact hQ _ _ h'
     | ret =>
      simp only [Option.some.injEq,Prod.mk.injEq] at h
      obtain ⟨rfl,rfl⟩:=h
      exact hQ _ _ h'
  exact wpIn_loop_rounds n (key n hs he)
 | .cut l1 g l2 kill,code,c,r,m,S,S1,x,a,w,Q,hv,hok,hb,hF,hs,he,hQ=>by
  simp only [exec] at he
  split at he
  ·rename_i S2 h2
   split at he
   ·rename_i S3 h3
    cases h4:regionL Γ false l2 kill S3 with
    | none=>rw [h4] at he; cases he
    | some S4 =>
     rw [h4] at he
     simp only [Option.map_some,Option.some.injEq,Prod.mk.injEq] at he
     obtain ⟨rfl,rfl⟩:=he
     unfold regionL at h2 h4
     split at h2
     ·rename_i S2' h5
      injection h2 with h2
      subst h2
      split at h4
      ·rename_i S4' h6
       injection h4 with h4
       subst h4
       cases code <;> simp only [viewC,strip] at hv <;> try (repeat' (first | (simp at hv; done) | (exact (viewB_off hv rfl).elim) | split at hv))
       rename_i id ops draw _ ls' hls
       simp only [Option.some.injEq,LC.region.injEq] at hv
       obtain ⟨rfl,rfl,_⟩:=hv
       simp only [okC,Bool.and_eq_true,List.all_eq_true,Bool.or_eq_true,Bool.not_eq_true'] at hok
       obtain ⟨p1,p2,ep,v1,v2⟩:=viewOps_app hls
       have hok1:=hok.1
       rw [ep] at hok1
       refine wpIn_region_list ?_
       rw [ep]
       exact runLp_ok hΓ hF v1 (fun o ho=>hok1 o (List.mem_append_left _ ho)) hs h5 (fun a1 w1 hs1=>runL_ok hΓ hF v2 (fun o ho=>hok1 o (List.mem_append_right _ ho)) (ghost_ok hF hs1 h3) h6 (fun a' w' h=>hQ _ _ (h.drop kill)))
      ·cases h4
     ·cases h2
   ·cases he
  ·cases he
 | .back fs g i x' slots asg l,code,c,r,m,S,S1,x,a,w,Q,hv,hok,hb,hF,hs,he,hQ=>by
  have hr:r=none:=hb.elim _root_.id fun h=>by cases h
  subst hr
  simp only [exec] at he
  split at he
  ·rename_i es hes
   split at he
   ·rename_i hc
    rw [Bool.and_eq_true,List.all_eq_true] at hc
    cases hL:backL (roundL (exec Γ n l) i x' slots asg) es.reverse S with
    | none=>rw [hL] at he; cases he
    | some S2 =>
     rw [hL] at he
     simp only [Option.map_some,Option.some.injEq,Prod.mk.injEq] at he
     obtain ⟨rfl,rfl⟩:=he
     cases code <;> simp only [viewC,strip] at hv <;> try (repeat' (first | (simp at hv; done) | split at hv))
     rename_i g' ps ac bc
     unfold viewB at hv
     split at hv
     ·rename_i g2 id ops i2 x2 hps
      split at hv
      ·rename_i ls hls
       split at hv
       ·rename_i y hy
        split at hv
        ·rename_i hbk
         simp only [Option.some.injEq,LC.back.injEq] at hv
         obtain ⟨rfl,rfl,rfl,rfl,_,rfl,rfl⟩:=hv
         rw [Bool.and_eq_true,decide_eq_true_eq] at hbk
         simp only [okC,Bool.and_eq_true,hps,List.all_cons,List.all_nil,Bool.and_true,decide_eq_true_eq,List.all_eq_true] at hok
         have hp:ps=#[i2,x2]:=Array.toList_inj.1 hps
         subst hp
         exact hB N c m _ _ _ _ slots _ _ _ _ _ es S S2 a w Q hbk.1 hok.1.1.1 hok.1.1.2 hbk.2 hok.1.2.1 hls (fun c' r' m' S' S1' x'' a' w' Q' hF' hs' he' hQ'=>exec_ok hΓ hD hB l _ hy hok.2 (.inr hc.1) hF' hs' he' hQ') (fun s hs=>by simpa using hc.2 s hs) hF hs hes hL hQ
        ·cases hv
       ·cases hv
      ·cases hv
     ·cases hv
   ·cases he
  ·cases he
end
end Go.Lg

namespace Go.Lg
set_option linter.unusedSimpArgs false
set_option linter.unusedVariables false
open Go.RowKit
variable [GL]
set_option linter.unusedVariables false

def viewRes (P:Program):List ResultVar→Option (List ResL)
 | []=>some []
 | .tmp t :: rs=>if t < 1048576 then (viewRes P rs).map (.t t :: ·) else none
 | .cell a t :: rs=>match loadInfo P t with
  | some (n,g)=>if a < 1048576 then (viewRes P rs).map (.c a n g :: ·) else none
  | none=>none

def single (rs:List DV):DV:=match rs with
 | [r]=>r
 | rs=>.tup rs
def singleV (vs:List Value):Value:=match vs with
 | [v]=>v
 | vs=>.tuple vs.toArray

structure Entry (w:World) (ok0:Nat→Prop) (refs:List (Nat×PO)) (O:OM) (args:List DV) (vs:Array Value):Prop where
 size:vs.size=args.length
 mem:MR ⟨w,ok0,refs⟩ O (enter 0 args ⟨[],[]⟩).ob w
 args:∀ j,VR w w.heap.size (okb ok0 w.heap.size O) O (look (enter 0 args ⟨[],[]⟩).sl j) (vs.getD j undef)
 seven:∀ r∈refs,6≤r.1 % 8

def Ret (c:Cx) (args:List DV) (r:DV×List DV) (v:Value) (w':World):Prop :=
 ∃ (O:OM) (ob ob2:OB) (raws:List DV) (vals:List Value) (rs:List DV),MR c O ob w'∧raws.length=vals.length∧(∀ (j:Nat) (d:DV) (u:Value),raws[j]?=some d→vals[j]?=some u→VR w' c.B (okb c.ok0 c.B O) O d u) ∧
  v=singleV vals∧giveBackL ob raws=some (rs,ob2)∧outs ob2 0 args=some r.2∧r.1=single rs

def CallSpec (P:Program) (f:FuncId) (args:List DV) (r:DV×List DV):Prop :=
 ∀ (w:World) (ok0:Nat→Prop) (refs:List (Nat×PO)) (O:OM) (vs:Array Value),Entry w ok0 refs O args vs→Calls P f vs w fun e w'=>∃ v,e=.returned v∧Ret ⟨w,ok0,refs⟩ args r v w'

def FnSound (P:Program) (Γ:Fns):Prop:=∀ f args r,Γ f args=some r→hasBody P f=true∧CallSpec P f args r

/-- The reading of a function is that of the translation. -/
structure OkB (P:Program) (dc:Array Oper→Bool) (f:FuncId) (F:LF):Prop where
 ok : ∃ (fn : Func) (code : Code),P.funcs[f]? = some fn ∧ fn.body = some code ∧ (fn.name == "runtime.NumGoroutine") = false ∧ viewC P code = some (strip F.body) ∧ okC fn.ntmps dc code = true ∧ (F.nparams ≤ fn.ntmps ∧ F.nparams < 1048576) ∧ viewRes P fn.results.toList = some F.results

/-- A function is as it is said to be: by its text,or by what is known of it. -/
def OkF (P:Program) (dc:Array Oper→Bool) (f:FuncId) (F:LF):Prop :=
 (F.prim=none∧OkB P dc f F)∨∃ g,F.prim=some g∧∀ args r,g args=some r→hasBody P f=true∧CallSpec P f args r

section
variable {P:Program} {Γ:Fns} {c:Cx} {N:Nat}

theorem load_any {fr:Nat→Bool} {w:World} {O:OM} {ob ob':OB} (hm:MR c O ob w) {t:TypeId} {n:Nat} {g:Bool} (hli:loadInfo P t=some (n,g)) {d0 d:DV} {v0:Value} (hx:VR w c.B (okb c.ok0 c.B O) O d0 v0) (he:effP fr (.load n g) [d0] ob=some (d,ob')) :
  ∃ ad v,v0=.pointer (some ad)∧(loadVar t ad).run P w=.ok v w∧VR w c.B (okb c.ok0 c.B O) O d v:=by
 have key : ∃ v,(execOp (fun _ => v0) ⟨none,.load t (.tmp 0),t,"",#[],none⟩).run P w = .ok (.value v) w ∧ VR w c.B (okb c.ok0 c.B O) O d v := by
  obtain ⟨h1,h2,h3⟩:=loadInfo_some hli
  simp only [effP] at he
  split at he
  ·rename_i heq; simp only [List.cons.injEq,and_true] at heq; subst heq
   simp only [Option.map_eq_some_iff,Prod.mk.injEq] at he
   obtain ⟨e,hp,rfl,rfl⟩:=he
   rename_i d1
   have hde:e=d1:=by
    split at hp
    ·split at hp
     ·injection hp with hp; exact hp.symm
     ·cases hp
    ·split at hp
     ·cases hp
     ·injection hp with hp; exact hp.symm
   subst hde
   obtain ⟨ad,xs,hv,_,_,hcell,hc⟩:=hx.adr'
   obtain ⟨v,hr,hvr⟩:=load_ok (c:=c) (O:=O) h1 h2 h3 ad hcell hc (fun ha=>by
    subst ha
    cases e <;> simp at hp
    exact ⟨_,rfl,hp⟩) (fun ha=>by
    subst ha
    cases e <;> simp at hp <;> rfl)
   exact ⟨v,by simp only [execOp,hv,Sem.run_bind,hr,Result.andThen_ok]; rfl,hvr⟩
  ·rename_i k0 n0 a0 o0 heq; simp only [List.cons.injEq,and_true] at heq; subst heq
   split at he
   ·rename_i es hl
    split at he
    ·rename_i hn
     split at he
     ·rename_i e hget
      simp only [Option.map_eq_some_iff,Prod.mk.injEq] at he
      obtain ⟨e',hp,rfl,rfl⟩:=he
      obtain ⟨p,gb,hO,hpl,hgb,hv,hor⟩:=hx.oad_cur hm hl hn
      obtain ⟨xs,hcr,hcell⟩:=hor.elem hget hgb
      obtain ⟨q1,q2,q3⟩:=part_ok hcr hp h3
      obtain ⟨v,hr,hvr⟩:=load_ok (c:=c) (O:=O) h1 h2 h3 ⟨gb,a0 * p.sz+o0,none⟩ (d:=e') (xs:=(xs.drop o0).take n) (fun j u hu=>by
       rw [List.getElem?_take] at hu
       split at hu
       ·rw [List.getElem?_drop] at hu
        rw [add_plain',Nat.add_assoc]
        exact hcell _ u hu
       ·cases hu) q1 (fun ha=>by
       obtain ⟨cs,rfl⟩:=q2 ha
       simp only at ha
       subst ha
       unfold part at hp
       simp only [if_true] at hp
       split at hp
       ·injection hp with hp
        injection hp with hp
        exact ⟨cs,rfl,by rw [← hp]; simp; omega⟩
       ·cases hp) q3
      exact ⟨v,by simp only [execOp,hv,Sem.run_bind,hr,Result.andThen_ok]; rfl,hvr⟩
     ·cases he
    ·cases he
   ·cases he
  ·cases he
 obtain ⟨v,hr,hv⟩:=key
 have hp:∃ ad,v0=.pointer (some ad):=by
  simp only [effP] at he
  split at he
  ·rename_i heq; simp only [List.cons.injEq,and_true] at heq; subst heq
   obtain ⟨ad,_,h,_⟩:=hx.adr'; exact ⟨ad,h⟩
  ·rename_i heq; simp only [List.cons.injEq,and_true] at heq; subst heq
   obtain ⟨ad,h,_⟩:=hx.oad'; exact ⟨ad,h⟩
  ·cases he
 obtain ⟨ad,rfl⟩:=hp
 refine ⟨ad,v,rfl,?_,hv⟩
 have : (execOp (fun _ => .pointer (some ad)) ⟨none,.load t (.tmp 0),t,"",#[],none⟩).run P w = ((loadVar t ad).run P w).andThen fun v w' => .ok (.value v) w' := by
  simp only [execOp,Instr.loadAt,Instr.sureAddr,Sem.run_bind,Sem.run_pure,Result.andThen_ok]
 rw [this] at hr
 cases hl:(loadVar t ad).run P w with
 | ok u w1 =>
  rw [hl] at hr
  simp only [Result.andThen_ok,Result.ok.injEq,Next.value.injEq] at hr
  obtain ⟨rfl,rfl⟩:=hr
  rfl
 | halt h w1=>rw [hl] at hr; simp at hr

theorem res_one {S:LS} {a:Act} {w:World} {O:OM} (hm:MR c O S.ob w) (hsr:SR w c.B (okb c.ok0 c.B O) O S.sl a):∀ {rvs:List ResultVar} {rls:List ResL} {vs:List DV},viewRes P rvs=some rls→resV S rls=some vs →
  ∃ vals,(rvs.mapM (m:=Sem) fun | .tmp t=>pure (a.tmps.getD t undef) | .cell b t=>do loadVar t (← asAddr (a.tmps.getD b undef))).run P w=.ok vals w∧vs.length=vals.length ∧
   ∀ (j:Nat) (d:DV) (u:Value),vs[j]?=some d→vals[j]?=some u→VR w c.B (okb c.ok0 c.B O) O d u
 | [],rls,vs,hv,hr=>by
  simp only [viewRes,Option.some.injEq] at hv
  subst hv
  simp only [resV,Option.some.injEq] at hr
  subst hr
  exact ⟨[],rfl,rfl,by simp⟩
 | .tmp t :: rvs,rls,vs,hv,hr=>by
  simp only [viewRes] at hv
  split at hv
  rotate_left
  ·cases hv
  rename_i htl
  rw [Option.map_eq_some_iff] at hv
  obtain ⟨rls',h1,rfl⟩:=hv
  simp only [resV,Option.map_eq_some_iff] at hr
  obtain ⟨vs',h2,rfl⟩:=hr
  obtain ⟨vals,h3,h4,h5⟩:=res_one hm hsr h1 h2
  refine ⟨a.tmps.getD t undef :: vals,?_,by simp [h4],fun j d u hd hu=>?_⟩
  ·rw [List.mapM_cons]
   simp only [Sem.run_bind,Sem.run_pure,Result.andThen_ok,h3]
  ·cases j with
   | zero=>simp only [List.getElem?_cons_zero,Option.some.injEq] at hd hu; subst hd; subst hu; have:=hsr t; rwa [tval_lt a htl] at this
   | succ j=>simp only [List.getElem?_cons_succ] at hd hu; exact h5 j d u hd hu
 | .cell b t :: rvs,rls,vs,hv,hr=>by
  simp only [viewRes] at hv
  split at hv
  ·rename_i n g hli
   split at hv
   rotate_left
   ·cases hv
   rename_i htl
   simp only [Option.map_eq_some_iff] at hv
   obtain ⟨rls',h1,rfl⟩:=hv
   simp only [resV] at hr
   split at hr
   ·rename_i d0 ob0 heff
    simp only [Option.map_eq_some_iff] at hr
    obtain ⟨vs',h2,rfl⟩:=hr
    obtain ⟨vals,h3,h4,h5⟩:=res_one hm hsr h1 h2
    obtain ⟨ad,v,hp,hrun,hvr⟩:=load_any hm hli (by have:=hsr b; rwa [tval_lt a htl] at this) heff
    refine ⟨v :: vals,?_,by simp [h4],fun j d u hd hu=>?_⟩
    ·have hA:(asAddr (a.tmps.getD b undef)).run P w=.ok ad w:=by rw [hp]; rfl
     rw [List.mapM_cons]
     simp only [Sem.run_bind,hA,Sem.run_pure,Result.andThen_ok,hrun,h3]
    ·cases j with
     | zero=>simp only [List.getElem?_cons_zero,Option.some.injEq] at hd hu; subst hd; subst hu; exact hvr
     | succ j=>simp only [List.getElem?_cons_succ] at hd hu; exact h5 j d u hd hu
   ·cases hr
  ·cases hv

theorem run_results {fn:Func} {S:LS} {a:Act} {w:World} {O:OM} (hm:MR c O S.ob w) (hsr:SR w c.B (okb c.ok0 c.B O) O S.sl a) {rls:List ResL} {vs:List DV} (hv:viewRes P fn.results.toList=some rls) (hr:resV S rls=some vs) :
  ∃ vals,(results fn a.tmps).run P w=.ok (singleV vals) w∧vs.length=vals.length∧∀ (j:Nat) (d:DV) (u:Value),vs[j]?=some d→vals[j]?=some u→VR w c.B (okb c.ok0 c.B O) O d u:=by
 obtain ⟨vals,h1,h2,h3⟩:=res_one hm hsr hv hr
 refine ⟨vals,?_,h2,h3⟩
 unfold results
 rw [Array.mapM_eq_mapM_toList]
 rw [Sem.run_bind,Sem.run_map]
 erw [h1]
 simp only [Result.andThen_ok,Sem.run_pure]
 congr 1
 unfold singleV
 match vals with
 | []=>rfl
 | [v]=>rfl
 | v :: u :: l=>simp

def argSlot (j:Nat):DV→DV
 | .ref c=>.oad (mkId j c.cells.length 7) 1 0 0
 | .fr sz es=>.own (mkId j sz 7) es.length 0 es.length
 | .gv sz es=>.own (mkId j sz 6) es.length 0 es.length
 | d=>d

theorem enter_sl:∀ (as:List DV) (j:Nat) (S:LS) (t:Nat),look (enter j as S).sl t=if j≤t then (match as[t - j]? with | some d=>argSlot t d | none=>look S.sl t) else look S.sl t
 | [],j,S,t=>by simp [enter]
 | d :: as,j,S,t=>by
  have key:∀ (S':LS) (x:DV),S'.sl=put S.sl j x→x=argSlot j d→look (enter (j+1) as S').sl t=if j≤t then (match (d :: as)[t - j]? with | some d=>argSlot t d | none=>look S.sl t) else look S.sl t:=by
   intro S' x hS hx
   rw [enter_sl as (j+1) S' t,hS,look_put]
   by_cases h1:j+1≤t
   ·have hne:t≠j:=by omega
    simp only [if_neg hne]
    rw [if_pos h1,if_pos (show j≤t by omega),show t - j=(t - (j+1))+1 by omega,List.getElem?_cons_succ]
   ·rw [if_neg h1]
    by_cases h2:t=j
    ·subst h2; simp [hx]
    ·rw [if_neg h2,if_neg (show ¬ j≤t by omega)]
  cases d <;> exact key _ _ rfl rfl

theorem enter_ob_sl:∀ (as:List DV) (j:Nat) (S T:LS),S.ob=T.ob→(enter j as S).ob=(enter j as T).ob
 | [],_,_,_,h=>h
 | d :: ds,j,S,T,h=>by
  cases d <;> (simp only [enter]; exact enter_ob_sl ds (j+1) _ _ (by simp [h]))
theorem gAt_look:∀ (l:List (Nat×DV)) (g t:Nat),look (gAt l g) t=.dead∨∃ d,t=gslot g∧(g,d)∈l∧look (gAt l g) t=.adr d
 | [],g,t=>.inl rfl
 | (k,d) :: r,g,t=>by
  simp only [gAt]
  split
  ·rename_i hk
   subst hk
   simp only [look]
   split
   ·rename_i h; exact .inr ⟨d,h.symm,List.mem_cons_self ..,rfl⟩
   ·exact .inl rfl
  ·rcases gAt_look r g t with h | ⟨d',h1,h2,h3⟩
   ·exact .inl h
   ·exact .inr ⟨d',h1,List.mem_cons_of_mem _ h2,h3⟩
theorem look_app:∀ (e e':Env) (t:Nat),(look (e++e') t=look e t)∨(look (e++e') t=look e' t)
 | [],e',t=>.inr rfl
 | (k,d) :: r,e',t=>by
  simp only [List.cons_append,look]
  split
  ·exact .inl rfl
  ·exact look_app r e' t
theorem gEnv_look:∀ (l:List Nat) (t:Nat),look (gEnv l) t=.dead∨∃ g d,t=gslot g∧(g,d)∈GL.gl∧look (gEnv l) t=.adr d
 | [],t=>.inl rfl
 | g :: l,t=>by
  have e:gEnv (g :: l)=gAt GL.gl g++gEnv l:=by simp [gEnv]
  rw [e]
  rcases look_app (gAt GL.gl g) (gEnv l) t with h | h
  ·rw [h]
   rcases gAt_look GL.gl g t with h1 | ⟨d,h1,h2,h3⟩
   ·exact .inl h1
   ·exact .inr ⟨g,d,h1,h2,h3⟩
  ·rw [h]; exact gEnv_look l t
theorem glob_vr {w:World} {ok0:Nat→Prop} {refs:List (Nat×PO)} {O:OM} {ob:OB} (hm:MR ⟨w,ok0,refs⟩ O ob w) {g:Nat} {d:DV} (h:(g,d)∈GL.gl):VR w w.heap.size (okb ok0 w.heap.size O) O (.adr d) (.pointer (some ⟨g,0,none⟩)):=by
 obtain ⟨h1,h2,h3,xs,h4,h5⟩:=hm.glob (g,d) h
 refine .adr d ⟨g,0,none⟩ xs ⟨fun _=>h2,fun k p hk hg=>?_⟩ h1 h4 (h5 _ _ _)
 rcases hm.base k p g hk hg with h | ⟨_,r,hr,_,hg'⟩
 ·have:g < w.heap.size:=h1
  have:w.heap.size≤g:=h
  omega
 ·exact h3 r hr hg'

section put
variable {w:World} {D:Nat} {o o':Obj}
theorem cell_putO (h:w.heap[D]?=some o) (ho:nocells o=true) (ho':nocells o'=true) (ad:Addr):(w.putObj D o').cell? ad=w.cell? ad:=by
 by_cases e:ad.block=D
 ·have h1:(w.putObj D o').heap[ad.block]?=some o':=by rw [e]; exact World.putObj_heap_same (Array.getElem?_eq_some_iff.1 h).1
  have h2:w.heap[ad.block]?=some o:=by rw [e]; exact h
  unfold World.cell?
  rw [h1,h2]
  cases o <;> cases o' <;> first | rfl | (simp [nocells] at ho; done) | (simp [nocells] at ho'; done)
 ·exact World.cell?_of_block (World.putObj_heap_other e)
theorem row_putO (h:w.heap[D]?=some o) (ho:nocells o=true) {ty:TypeId} {sz:Nat} {v:Value} {n:Nat} {xs:List Value} (hr:w.ownsRow 0 ty sz v n xs):(w.putObj D o').ownsRow 0 ty sz v n xs:=by
 refine ⟨hr.1,?_⟩
 rcases hr.2 with h0 | ⟨g,cap,cur,hv,h1,h2,h3⟩
 ·exact .inl h0
 ·refine .inr ⟨g,cap,cur,hv,h1,?_,h3⟩
  rw [World.putObj_heap_other (fun e=>by rw [e,h] at h2; injection h2 with h2; subst h2; cases ho)]
  exact h2
theorem CR.putO {B:Nat} {ok:OkT} (h:w.heap[D]?=some o) (ho:nocells o=true) (ho':nocells o'=true) {d:DV} {v:Value} (hc:CR w B ok d v):CR (w.putObj D o') B ok d v:=by
 induction hc with
 | i n=>exact .i n
 | y n hn=>exact .y n hn
 | b x=>exact .b x
 | s l=>exact .s l
 | w x=>exact .w x
 | q n hn=>exact .q n hn
 | r n=>exact .r n
 | nf=>exact .nf
 | cel j n A m cap hm h=>exact .cel j n A m cap hm h
 | wild A m cap hm=>exact .wild A m cap hm
 | sl0 p A cap hm=>exact .sl0 p A cap hm
 | sl p es ad n cap sz xs hn h0 hc hm hsz hok1 hlt hold hnew hrow hl hcell hrec ih =>
  exact .sl p es ad n cap sz xs hn h0 hc hm hsz hok1 (by rw [World.putObj_size]; exact hlt) hold hnew (fun hp=>(hrow hp).imp fun ty hr=>row_putO h ho hr) hl (fun j u hu=>by rw [cell_putO h ho ho']; exact hcell j u hu) ih
 | fn f cs vs hl ads yss hp hq hr ihq ihr =>
  refine .fn f cs vs hl ads yss (fun j e u h1 h2=>?_) ihq ihr
  obtain ⟨q1,q2,q3,q4,q5⟩:=hp j e u h1 h2
  exact ⟨q1,q2,by rw [World.putObj_size]; exact q3,fun i x hx=>by rw [cell_putO h ho ho']; exact q4 i x hx,q5⟩
theorem CRs.putO {B:Nat} {ok:OkT} (h:w.heap[D]?=some o) (ho:nocells o=true) (ho':nocells o'=true) {cs:List DV} {xs:List Value} (hc:CRs w B ok cs xs):CRs (w.putObj D o') B ok cs xs :=
 ⟨hc.1,fun j c u h1 h2=>(hc.2 j c u h1 h2).putO h ho ho'⟩
theorem AR.putO {B:Nat} {ok:OkT} (h:w.heap[D]?=some o) (ho:nocells o=true) (ho':nocells o'=true) {d:DV} {v:Value} (hc:AR w B ok d v):AR (w.putObj D o') B ok d v:=by
 rcases hc with hc | ⟨e,ad,xs,h1,h2,h3,h4,h5,h6⟩
 ·exact .inl (hc.putO h ho ho')
 ·exact .inr ⟨e,ad,xs,h1,h2,h3,by rw [World.putObj_size]; exact h4,fun j u hu=>by rw [cell_putO h ho ho']; exact h5 j u hu,h6.putO h ho ho'⟩
theorem VR.putO {B:Nat} {ok:OkT} {O:OM} (h:w.heap[D]?=some o) (ho:nocells o=true) (ho':nocells o'=true) {d:DV} {v:Value} (hc:VR w B ok O d v):VR (w.putObj D o') B ok O d v:=by
 induction hc with
 | cr d v hc=>exact .cr _ _ (hc.putO h ho ho')
 | st cs vs hc=>exact .st _ _ (hc.putO h ho ho')
 | fn f cs vs hc=>exact .fn _ _ _ ⟨hc.1,fun j c u h1 h2=>(hc.2 j c u h1 h2).putO h ho ho'⟩
 | nil=>exact .nil
 | np=>exact .np
 | und=>exact .und
 | dead v=>exact .dead v
 | adr d ad xs hok hlt hcell hc=>exact .adr d ad xs hok (by rw [World.putObj_size]; exact hlt) (fun j u hu=>by rw [cell_putO h ho ho']; exact hcell j u hu) (hc.putO h ho ho')
 | own k n lo hi p v hO hn h1 h2 hv=>exact .own k n lo hi p v hO hn h1 h2 hv
 | ownS k n lo hi A cap hO=>exact .ownS k n lo hi A cap hO
 | oad k n a o p g hO hn hg=>exact .oad k n a o p g hO hn hg
 | oadS k n a o ad hO=>exact .oadS k n a o ad hO
 | tup ds vs hl hnt hv ih=>exact .tup ds vs hl hnt ih
theorem MR.putO {O:OM} {ob:OB} (h:w.heap[D]?=some o) (ho:nocells o=true) (ho':nocells o'=true) (hB:c.B≤D) (hm:MR c O ob w):MR c O ob (w.putObj D o'):=by
 refine ⟨hm.os,hm.tape,hm.output,by rw [World.putObj_size]; exact hm.size,fun b hb hr=>?_,hm.dom,fun k p es hk he=>?_,hm.inj,hm.base,hm.sz,hm.refs,hm.glob⟩
 ·rw [World.putObj_heap_other (by omega)]; exact hm.frame b hb hr
 ·obtain ⟨h1,h2,h3,xs,h4,h5⟩:=hm.obj k p es hk he
  exact ⟨h1,h2,h3,xs,row_putO h ho h4,h5.putO h ho ho'⟩
end put

theorem leaves_marks {m:Nat} {fn:Func} {R:Ending→World→Prop} (c:Cx) {tmps:Array Value}:∀ (Ds:List Nat) {w:World},Ds.Nodup→(∀ D∈Ds,c.B≤D∧w.heap[D]?=some (.deferred (some []))) →
  (∀ w',(∀ D:Nat,D < c.B→w'.heap[D]?=w.heap[D]?)→(∀ (O:OM) (ob:OB),MR c O ob w→MR c O ob w'∧∀ (d:DV) (v:Value),VR w c.B (okb c.ok0 c.B O) O d v→VR w' c.B (okb c.ok0 c.B O) O d v)→∃ v,(results fn tmps).run P w'=.ok v w'∧R (.returned v) w') →
  LeavesInM (Wd none) m P fn tmps R (Ds.map markD) .returning w
 | [],w,_,_,hR=>hR w (fun _ _=>rfl) (fun _ _ h=>⟨h,fun _ _ h=>h⟩)
 | D :: Ds,w,hn,hD,hR=>by
  obtain ⟨hB,hd⟩:=hD D (List.mem_cons_self ..)
  rw [List.nodup_cons] at hn
  refine ⟨by simp,.inl ⟨D,w.putObj D (.deferred none),rfl,run_takeDeferred hd,leaves_marks c Ds hn.2 (fun D' hD'=>?_) (fun w' h1 h2=>hR w' (fun E hE=>?_) (fun O ob hm=>?_))⟩⟩
  ·obtain ⟨h1,h2⟩:=hD D' (List.mem_cons_of_mem _ hD')
   exact ⟨h1,by rw [World.putObj_heap_other (show D'≠D from fun e=>hn.1 (by rw [← e]; exact hD'))]; exact h2⟩
  ·rw [h1 E hE,World.putObj_heap_other (by omega)]
  ·obtain ⟨h3,h4⟩:=h2 O ob (hm.putO hd rfl rfl hB)
   exact ⟨h3,fun d v hv=>h4 d v (hv.putO hd rfl rfl)⟩

theorem call_spec (hΓ:CallOk P Γ) {dc:Array Oper→Bool} (hD:DrawOk P Γ dc) (hBS:BackSound P) {n:Nat} {f:Nat} {F:LF} (hF:OkB P dc f F) {args:List DV} (hl:args.length=F.nparams) {x:Ex} {S:LS} (hx:x=.normal∨x=.ret) (he:exec Γ n F.body (enter 0 args ⟨gEnv F.gl,[]⟩)=some (x,S))
  {r:DV×List DV} (hr:leave F args S=some r):hasBody P f=true∧CallSpec P f args r:=by
 obtain ⟨fn,code,hfn,hb,hne,hv,hok,⟨hnp,hnp2⟩,hres⟩:=hF.ok
 refine ⟨by simp [hasBody,hfn,hb,hne],fun w ok0 refs O vs hE=>?_⟩
 refine (callsIn_wide (n:=0)).1 (callsIn_of_wp_marks (F:=Wd none) hfn hb trivial ?_ rfl)
 have hsize:vs.size≤fn.ntmps:=by rw [hE.size,hl]; exact hnp
 have hst:St ⟨w,ok0,refs⟩ fn.ntmps (enter 0 args ⟨gEnv F.gl,[]⟩) { tmps:=vs++Array.replicate (fn.ntmps - vs.size) undef,defers:=[] } w:=by
  refine ⟨O,by rw [enter_ob_sl args 0 ⟨gEnv F.gl,[]⟩ ⟨[],[]⟩ rfl]; exact hE.mem,fun t=>?_,Dfs.nil _ _,by simp; omega⟩
  have hfew:args.length < 1048576:=by omega
  rw [enter_sl args 0 ⟨gEnv F.gl,[]⟩ t]
  simp only [Nat.zero_le,if_true,Nat.sub_zero]
  have this:=hE.args t
  rw [enter_sl args 0 ⟨[],[]⟩ t] at this
  simp only [Nat.zero_le,if_true,Nat.sub_zero,look] at this
  rcases Nat.lt_or_ge t args.length with htl | htl
  rotate_left
  ·rw [List.getElem?_eq_none htl]
   simp only
   rcases gEnv_look F.gl t with h | ⟨g,d,rfl,h1,h2⟩
   ·rw [h]; exact .dead _
   ·rw [h2]
    have e:tval ({ tmps:=vs++Array.replicate (fn.ntmps - vs.size) undef,defers:=[] }:Act) (gslot g)=.pointer (some ⟨g,0,none⟩):=by
     unfold tval gslot
     rw [if_neg (by omega),show 1048576+g - 1048576=g by omega]
    rw [e]
    exact glob_vr hE.mem h1
  rw [List.getElem?_eq_getElem htl] at this ⊢
  simp only at this ⊢
  rw [tval_lt _ (by omega)]
  have e:(vs++Array.replicate (fn.ntmps - vs.size) undef).getD t undef=vs.getD t undef:=by
   simp only [Array.getD_eq_getD_getElem?]
   by_cases ht:t < vs.size
   ·rw [Array.getElem?_append_left ht]
   ·rw [Array.getElem?_append_right (by omega),Array.getElem?_eq_none (by omega:vs.size≤t)]
    by_cases h2:t - vs.size < fn.ntmps - vs.size
    ·simp [Array.getElem?_replicate,h2]
    ·simp [Array.getElem?_replicate,h2]
  rw [e]
  exact this
 refine exec_ok hΓ hD hBS F.body code hv hok (.inl rfl) hE.seven hst he (fun a' w' hs'=>?_)
 have fin:LeavesInM (Wd none) 0 P fn a'.tmps (fun e w'=>∃ v,e=.returned v∧Ret ⟨w,ok0,refs⟩ args r v w') a'.defers .returning w':=by
  obtain ⟨O',hm',hsr',hdf,_⟩:=hs'
  obtain ⟨Ds,hds,hnd,hDD⟩:=hdf
  rw [hds]
  refine leaves_marks ⟨w,ok0,refs⟩ Ds hnd hDD (fun w2 _ hmv=>?_)
  obtain ⟨hm2,hv2⟩:=hmv O' S.ob hm'
  unfold leave at hr
  split at hr
  ·cases hr
  ·rename_i raws hraws
   split at hr
   ·cases hr
   ·rename_i rs ob2 hgb
    split at hr
    ·cases hr
    ·rename_i cs hcs
     injection hr with hr
     obtain ⟨vals,h1,h2,h3⟩:=run_results hm2 (fun t=>hv2 _ _ (hsr' t)) hres hraws
     refine ⟨_,h1,_,rfl,O',S.ob,ob2,raws,vals,rs,hm2,h2,h3,rfl,hgb,?_,?_⟩
     ·rw [← hr]; exact hcs
     ·rw [← hr]; rfl
 rcases hx with rfl | rfl
 ·exact fin
 ·exact fin
end
end Go.Lg

namespace Go.Lg
open Go.RowKit
variable [GL]
set_option linter.unusedVariables false

theorem lendL_map:∀ ds:List DV,lendL ds=ds.map DV.lend
 | []=>rfl
 | d :: ds=>by simp [lendL,lendL_map ds]
theorem adoptL_map (o:Bool):∀ ds:List DV,adoptL o ds=ds.map (DV.adopt o)
 | []=>rfl
 | d :: ds=>by simp [adoptL,adoptL_map o ds]
theorem allNewL_all:∀ ds:List DV,allNewL ds=ds.all DV.allNew
 | []=>rfl
 | d :: ds=>by simp [allNewL,allNewL_all ds]
theorem lend_cells (d:DV):d.lend.cells=lendL d.cells:=by cases d <;> simp [DV.lend,DV.cells,lendL]
theorem adopt_cells (o:Bool) (d:DV):(d.adopt o).cells=adoptL o d.cells:=by cases d <;> simp [DV.adopt,DV.cells,adoptL]
theorem flat_lend:∀ es:List DV,flat (lendL es)=lendL (flat es)
 | []=>rfl
 | e :: es=>by
  have ih:=flat_lend es
  rw [lendL,flat_cons,flat_cons,lend_cells,ih]
  simp [lendL_map]
theorem flat_adopt (o:Bool):∀ es:List DV,flat (adoptL o es)=adoptL o (flat es)
 | []=>rfl
 | e :: es=>by
  have ih:=flat_adopt o es
  rw [adoptL,flat_cons,flat_cons,adopt_cells,ih]
  simp [adoptL_map]
theorem allNew_flat {es:List DV} (h:allNewL es=true):∀ c∈flat es,c.allNew=true:=by
 rw [allNewL_all,List.all_eq_true] at h
 intro c hc
 simp only [flat,List.mem_flatMap] at hc
 obtain ⟨e,he,hce⟩:=hc
 have h1:=h e he
 cases e with
 | st cs =>
  simp only [DV.cells] at hce
  simp only [DV.allNew,allNewL_all,List.all_eq_true] at h1
  exact h1 c hce
 | _=>simp only [DV.cells,List.mem_singleton] at hce; subst hce; exact h1
theorem lend_wid {es:List DV} {sz:Nat} (h:∀ e∈es,e.cells.length=sz):∀ e∈lendL es,e.cells.length=sz:=by
 intro e he
 rw [lendL_map] at he
 obtain ⟨x,hx,rfl⟩:=List.mem_map.1 he
 rw [lend_cells,lendL_map,List.length_map]
 exact h x hx
theorem adopt_wid {o:Bool} {es:List DV} {sz:Nat} (h:∀ e∈es,e.cells.length=sz):∀ e∈adoptL o es,e.cells.length=sz:=by
 intro e he
 rw [adoptL_map] at he
 obtain ⟨x,hx,rfl⟩:=List.mem_map.1 he
 rw [adopt_cells,adoptL_map,List.length_map]
 exact h x hx

theorem CR.lend_ {w:World} {B:Nat} {ok ok':OkT} {d:DV} {v:Value} (h:CR w B ok d v) (any:Bool) (hd:any=true∨d.allOld=true) (hok:∀ b,ok b→b < w.heap.size→(any=true∨b < B)→ok' b):CR w w.heap.size ok' d.lend v:=by
 induction h with
 | i n=>exact .i n
 | y n hn=>exact .y n hn
 | b x=>exact .b x
 | s l=>exact .s l
 | w x=>exact .w x
 | q n hn=>exact .q n hn
 | r n=>exact .r n
 | nf=>exact .nf
 | cel j n A m cap hm h=>exact .wild A m cap hm
 | wild A m cap hm=>exact .wild A m cap hm
 | sl0 p A cap hm=>exact .sl0 0 A cap hm
 | sl p es ad n cap sz xs hn h0 hc hm hsz hok1 hlt hold hnew hrow hl hcell hrec ih =>
  have hp:any=true∨(p=0∧allOldL es=true):=by
   rcases hd with h | h
   ·exact .inl h
   ·simp only [DV.allOld,Bool.and_eq_true,beq_iff_eq] at h; exact .inr h
  refine .sl 0 (lendL es) ad n cap sz xs (by rw [lendL_map,List.length_map]; exact hn) h0 hc hm (lend_wid hsz) (hok _ hok1 hlt (hp.imp _root_.id fun h=>hold h.1)) hlt (fun _=>hlt) (fun h=>by omega) (fun h=>by cases h) (by rw [flat_lend,lendL_map,List.length_map]; exact hl) hcell (fun j c u hc hu=>?_)
  rw [flat_lend,lendL_map,List.getElem?_map,Option.map_eq_some_iff] at hc
  obtain ⟨c0,hc0,rfl⟩:=hc
  exact ih j c0 u hc0 hu (hp.imp _root_.id fun h=>allOld_flat h.2 c0 (List.mem_of_getElem? hc0))
 | fn f cs vs hl ads yss hp hq hr ihq ihr =>
  have hd2:any=true∨∀ c∈cs,c.allOld=true:=hd.imp _root_.id fun h=>by simpa only [DV.allOld,allOldL_all,List.all_eq_true] using h
  have hany:∀ (j:Nat) (e:DV),cs[j]?=some (.adr e)→any=true:=fun j e h=>by
   rcases hd2 with h2 | h2
   ·exact h2
   ·have:=h2 _ (List.mem_of_getElem? h)
    simp [DV.allOld] at this
  have back:∀ (j:Nat) (c:DV),(lendL cs)[j]?=some c→∃ c0,cs[j]?=some c0∧c0.lend=c:=fun j c h=>by
   rw [lendL_map,List.getElem?_map,Option.map_eq_some_iff] at h
   exact h
  have isA:∀ (c e:DV),c.lend=.adr e→∃ e0,c=.adr e0∧e0.lend=e:=fun c e h=>by
   cases c <;> simp only [DV.lend] at h <;> first | (injection h with h; exact ⟨_,rfl,h⟩) | cases h
  rw [← fnV_lend f cs vs]
  refine .fn f (lendL cs) vs (by rw [lendL_map,List.length_map]; exact hl) ads yss (fun j e u h1 h2=>?_) (fun j e i c x h1 h2 h3=>?_) (fun j c u h1 h2 h3=>?_)
  ·obtain ⟨c0,h3,h4⟩:=back j _ h1
   obtain ⟨e0,rfl,rfl⟩:=isA _ _ h4
   obtain ⟨q1,q2,q3,q4,q5⟩:=hp j e0 u h3 h2
   exact ⟨q1,hok _ q2 q3 (.inl (hany j e0 h3)),q3,q4,by rw [lend_cells,lendL_map,List.length_map]; exact q5⟩
  ·obtain ⟨c0,h4,h5⟩:=back j _ h1
   obtain ⟨e0,rfl,rfl⟩:=isA _ _ h5
   rw [lend_cells,lendL_map,List.getElem?_map,Option.map_eq_some_iff] at h2
   obtain ⟨c1,h6,rfl⟩:=h2
   exact ihq j e0 i c1 x h4 h6 h3 (.inl (hany j e0 h4))
  ·obtain ⟨c0,h4,rfl⟩:=back j _ h1
   exact ihr j c0 u h4 (fun e he=>h2 e.lend (by rw [he]; rfl)) h3 (hd2.imp _root_.id fun h=>h c0 (List.mem_of_getElem? h4))
theorem CRs.lend_ {w:World} {B:Nat} {ok ok':OkT} {cs:List DV} {xs:List Value} (h:CRs w B ok cs xs) (any:Bool) (hd:any=true∨∀ c∈cs,c.allOld=true) (hok:∀ b,ok b→b < w.heap.size→(any=true∨b < B)→ok' b):CRs w w.heap.size ok' (lendL cs) xs:=by
 refine ⟨by rw [lendL_map,List.length_map]; exact h.1,fun j c u hc hu=>?_⟩
 rw [lendL_map,List.getElem?_map,Option.map_eq_some_iff] at hc
 obtain ⟨c0,hc0,rfl⟩:=hc
 exact (h.2 j c0 u hc0 hu).lend_ any (hd.imp _root_.id fun h=>h c0 (List.mem_of_getElem? hc0)) hok

theorem ARs.lend_ {w:World} {B:Nat} {ok ok':OkT} {cs:List DV} {xs:List Value} (h:ARs w B ok cs xs) (any:Bool) (hd:any=true∨∀ c∈cs,c.allOld=true) (hok:∀ b,ok b→b < w.heap.size→(any=true∨b < B)→ok' b):ARs w w.heap.size ok' (lendL cs) xs:=by
 refine ⟨by rw [lendL_map,List.length_map]; exact h.1,fun j c u hc hu=>?_⟩
 rw [lendL_map,List.getElem?_map,Option.map_eq_some_iff] at hc
 obtain ⟨c0,hc0,rfl⟩:=hc
 have hd0:=hd.imp _root_.id fun h=>h c0 (List.mem_of_getElem? hc0)
 rcases h.2 j c0 u hc0 hu with h1 | ⟨e,ad,ys,rfl,rfl,h2,h3,h4,h5⟩
 ·exact .inl (h1.lend_ any hd0 hok)
 ·have ha:any=true:=by
   rcases hd0 with h | h
   ·exact h
   ·simp [DV.allOld] at h
  refine .inr ⟨e.lend,ad,ys,rfl,rfl,hok _ h2 h3 (.inl ha),h3,h4,?_⟩
  rw [lend_cells]
  exact h5.lend_ any (.inl ha) hok

theorem adoptP_0 {o:Bool} {p:Nat} (h:adoptP o p=0):o=true∧p=0:=by
 unfold adoptP at h
 split at h
 ·omega
 ·split at h
  ·omega
  ·split at h
   ·assumption
   ·omega
theorem adoptP_n {o:Bool} {p:Nat} (h:adoptP o p=1∨adoptP o p=3):p=1∨p=3:=by
 unfold adoptP at h
 split at h
 ·omega
 ·split at h
  ·omega
  ·split at h <;> omega
theorem adoptP_1 {o:Bool} {p:Nat} (h:adoptP o p=1):p=1:=by
 unfold adoptP at h
 split at h
 ·assumption
 ·split at h
  ·omega
  ·split at h <;> omega
theorem newP_iff {p:Nat} (h:newP p=true):p=1∨p=3:=by simpa [newP] using h
theorem CR.adopt_ {w:World} {B B':Nat} {ok ok':OkT} {d:DV} {v:Value} (o:Bool) (h:CR w B ok d v) (hB:B'≤B) (any:Bool) (hd:any=true∨d.allNew=true) (ho:o=true→∀ b,ok b→b < B→b < B') (hok:∀ b,ok b→b < w.heap.size→(any=true∨B≤b)→ok' b):CR w B' ok' (d.adopt o) v:=by
 induction h with
 | i n=>exact .i n
 | y n hn=>exact .y n hn
 | b x=>exact .b x
 | s l=>exact .s l
 | w x=>exact .w x
 | q n hn=>exact .q n hn
 | r n=>exact .r n
 | nf=>exact .nf
 | cel j n A m cap hm h=>exact .wild A m cap hm
 | wild A m cap hm=>exact .wild A m cap hm
 | sl0 p A cap hm=>exact .sl0 _ A cap hm
 | sl p es ad n cap sz xs hn h0 hc hm hsz hok1 hlt hold hnew hrow hl hcell hrec ih =>
  have hp:any=true∨((p=1∨p=3)∧allNewL es=true):=by
   rcases hd with h | h
   ·exact .inl h
   ·simp only [DV.allNew,Bool.and_eq_true] at h; exact .inr ⟨newP_iff h.1,h.2⟩
  refine .sl _ (adoptL o es) ad n cap sz xs (by rw [adoptL_map,List.length_map]; exact hn) h0 hc hm (adopt_wid hsz) (hok _ hok1 hlt ?_) hlt (fun h=>?_) (fun h=>?_) (fun h=>hrow (adoptP_1 h)) (by rw [flat_adopt,adoptL_map,List.length_map]; exact hl) hcell (fun j c u hc hu=>?_)
  ·rcases hp with h | ⟨h,_⟩
   ·exact .inl h
   ·exact .inr (hnew h)
  ·obtain ⟨h1,h2⟩:=adoptP_0 h
   exact ho h1 _ hok1 (hold h2)
  ·exact Nat.le_trans hB (hnew (adoptP_n h))
  ·rw [flat_adopt,adoptL_map,List.getElem?_map,Option.map_eq_some_iff] at hc
   obtain ⟨c0,hc0,rfl⟩:=hc
   refine ih j c0 u hc0 hu ?_
   rcases hp with h | ⟨_,h⟩
   ·exact .inl h
   ·exact .inr (allNew_flat h c0 (List.mem_of_getElem? hc0))
 | fn f cs vs hl ads yss hp hq hr ihq ihr =>
  have hd2:any=true∨∀ c∈cs,c.allNew=true:=hd.imp _root_.id fun h=>by simpa only [DV.allNew,allNewL_all,List.all_eq_true] using h
  have hany:∀ (j:Nat) (e:DV),cs[j]?=some (.adr e)→any=true:=fun j e h=>by
   rcases hd2 with h2 | h2
   ·exact h2
   ·have:=h2 _ (List.mem_of_getElem? h)
    simp [DV.allNew] at this
  have back:∀ (j:Nat) (c:DV),(adoptL o cs)[j]?=some c→∃ c0,cs[j]?=some c0∧c0.adopt o=c:=fun j c h=>by
   rw [adoptL_map,List.getElem?_map,Option.map_eq_some_iff] at h
   exact h
  have isA:∀ (c e:DV),c.adopt o=.adr e→∃ e0,c=.adr e0∧e0.adopt o=e:=fun c e h=>by
   cases c <;> simp only [DV.adopt] at h <;> first | (injection h with h; exact ⟨_,rfl,h⟩) | cases h
  rw [← fnV_adopt o f cs vs]
  refine .fn f (adoptL o cs) vs (by rw [adoptL_map,List.length_map]; exact hl) ads yss (fun j e u h1 h2=>?_) (fun j e i c x h1 h2 h3=>?_) (fun j c u h1 h2 h3=>?_)
  ·obtain ⟨c0,h3,h4⟩:=back j _ h1
   obtain ⟨e0,rfl,rfl⟩:=isA _ _ h4
   obtain ⟨q1,q2,q3,q4,q5⟩:=hp j e0 u h3 h2
   exact ⟨q1,hok _ q2 q3 (.inl (hany j e0 h3)),q3,q4,by rw [adopt_cells,adoptL_map,List.length_map]; exact q5⟩
  ·obtain ⟨c0,h4,h5⟩:=back j _ h1
   obtain ⟨e0,rfl,rfl⟩:=isA _ _ h5
   rw [adopt_cells,adoptL_map,List.getElem?_map,Option.map_eq_some_iff] at h2
   obtain ⟨c1,h6,rfl⟩:=h2
   exact ihq j e0 i c1 x h4 h6 h3 (.inl (hany j e0 h4))
  ·obtain ⟨c0,h4,rfl⟩:=back j _ h1
   exact ihr j c0 u h4 (fun e he=>h2 (e.adopt o) (by rw [he]; rfl)) h3 (hd2.imp _root_.id fun h=>h c0 (List.mem_of_getElem? h4))
theorem CRs.adopt_ {w:World} {B B':Nat} {ok ok':OkT} {cs:List DV} {xs:List Value} (o:Bool) (h:CRs w B ok cs xs) (hB:B'≤B) (any:Bool) (hd:any=true∨∀ c∈cs,c.allNew=true) (ho:o=true→∀ b,ok b→b < B→b < B') (hok:∀ b,ok b→b < w.heap.size→(any=true∨B≤b)→ok' b):CRs w B' ok' (adoptL o cs) xs:=by
 refine ⟨by rw [adoptL_map,List.length_map]; exact h.1,fun j c u hc hu=>?_⟩
 rw [adoptL_map,List.getElem?_map,Option.map_eq_some_iff] at hc
 obtain ⟨c0,hc0,rfl⟩:=hc
 exact (h.2 j c0 u hc0 hu).adopt_ o hB any (by
  rcases hd with h | h
  ·exact .inl h
  ·exact .inr (h c0 (List.mem_of_getElem? hc0))) ho hok

theorem lendArgs_get {m:Bool} {ob:OB}:∀ {ds as:List DV},lendArgs m ob ds=some as→as.length=ds.length∧∀ (j:Nat) (d:DV),ds[j]?=some d→∃ e,as[j]?=some e∧lendArg m ob d=some e
 | [],as,h=>by simp only [lendArgs,Option.some.injEq] at h; subst h; exact ⟨rfl,by simp⟩
 | d :: ds,as,h=>by
  simp only [lendArgs] at h
  split at h
  ·rename_i e he
   split at h
   ·rename_i es hes
    injection h with h
    subst h
    obtain ⟨h1,h2⟩:=lendArgs_get hes
    refine ⟨by simp [h1],fun j x hx=>?_⟩
    cases j with
    | zero=>simp only [List.getElem?_cons_zero,Option.some.injEq] at hx; subst hx; exact ⟨e,rfl,he⟩
    | succ j=>simp only [List.getElem?_cons_succ] at hx ⊢; exact h2 j x hx
   ·cases h
  ·cases h

/-- The object that an argument hands over,and what it says of it. -/
def refOf (m:Bool):DV→Option Nat
 | .oad k _ _ _=>some k
 | .own k _ _ _=>if m=true then some k else none
 | .giv k _=>some k
 | _=>none
/-- The mark of its number,the width of its elements,and these. -/
def refW:DV→Option (Nat×Nat×List DV)
 | .ref c=>some (7,c.cells.length,[c])
 | .fr sz es=>some (7,sz,es)
 | .gv sz es=>some (6,sz,es)
 | _=>none
theorem refW_tag {d:DV} {tg sz:Nat} {es:List DV} (h:refW d=some (tg,sz,es)):tg < 8:=by
 cases d <;> simp [refW] at h <;> omega
def enterO (ob:OB) (j:Nat):Option (Nat×Nat×List DV)→OB
 | some (tg,sz,es)=>putO ob (mkId j sz tg) es
 | none=>ob
theorem enter_cons (j:Nat) (d:DV) (ds:List DV) (S:LS):enter j (d :: ds) S=enter (j+1) ds ⟨put S.sl j (argSlot j d),enterO S.ob j (refW d)⟩:=by
 cases d <;> rfl
theorem mkId_div {j sz tg:Nat} (h:sz < 64) (ht:tg < 8):mkId j sz tg / 512=j:=by unfold mkId; omega
theorem mkId_mod {j sz tg:Nat} (ht:tg < 8):mkId j sz tg % 8=tg:=by unfold mkId; omega

def obAt (ob:OB) (k:Nat):Option (Nat×Nat×List DV)→Option (List DV)
 | some (tg,sz,es)=>if k=mkId (k / 512) sz tg then some es else lookO ob k
 | none=>lookO ob k
theorem enter_ob:∀ (as:List DV) (j:Nat) (S:LS) (k:Nat),(∀ d∈as,∀ tg sz es,refW d=some (tg,sz,es)→sz < 64) →
  lookO (enter j as S).ob k=if j≤k / 512 then obAt S.ob k ((as[k / 512 - j]?).bind refW) else lookO S.ob k
 | [],j,S,k,_=>by simp [enter,obAt]
 | d :: as,j,S,k,hw=>by
  have hw':∀ d∈as,∀ tg sz es,refW d=some (tg,sz,es)→sz < 64:=fun x hx=>hw x (List.mem_cons_of_mem _ hx)
  have hd:=hw d (List.mem_cons_self ..)
  rw [enter_cons,enter_ob as (j+1) _ k hw']
  have keep:k / 512≠j→lookO (enterO S.ob j (refW d)) k=lookO S.ob k:=by
   intro hk
   cases hr:refW d with
   | none=>rfl
   | some p =>
    obtain ⟨tg,sz,es⟩:=p
    have h64:=hd tg sz es hr
    have h8:=refW_tag hr
    simp only [enterO]
    rw [lookO_put,if_neg (fun e=>hk (by rw [e]; exact mkId_div h64 h8))]
  by_cases h1:j+1≤k / 512
  ·have hk:=keep (by omega)
   rw [if_pos h1,if_pos (show j≤k / 512 by omega),show k / 512 - j=(k / 512 - (j+1))+1 by omega,List.getElem?_cons_succ]
   cases (as[k / 512 - (j+1)]?).bind refW with
   | none=>exact hk
   | some p=>obtain ⟨tg,sz,es⟩:=p; simp only [obAt,hk]
  ·rw [if_neg h1]
   by_cases h2:k / 512=j
   ·rw [if_pos (show j≤k / 512 by omega),show k / 512 - j=0 by omega,List.getElem?_cons_zero,Option.bind_some]
    cases hr:refW d with
    | none=>rfl
    | some p =>
     obtain ⟨tg,sz,es⟩:=p
     simp only [enterO,obAt,lookO_put,h2]
   ·rw [if_neg (by omega)]
    exact keep h2
end Go.Lg
