/- Part A of a logical reading of translated Go: what a frame holds is said by lists, and each operation is proved against the model. No conditions. -/
import GoSem.Core.Code
import Derived.WalkKit
import Derived.Maps.AppendAt
import Derived.Deep.Slices
set_option linter.unusedSectionVars false
set_option linter.unusedVariables false
set_option linter.unusedSimpArgs false
namespace Go.Lg

/-- What a slot holds,said as data. -/
inductive DV where
 | i (n:Int)
 | y (n:Nat)
 | b (x:Bool)
 | s (l:List UInt8)
 | w (x:BitVec 32)
 | q (n:Nat)
 | r (n:Int)
 | fn (f:Nat) (cs:List DV)
 | st (cs:List DV)
 | sl (p:Nat) (es:List DV)
 | own (k n lo hi:Nat)
 | adr (d:DV)
 | oad (k n at_ off:Nat)
 | ref (c:DV)
 | fr (sz:Nat) (es:List DV)
 | gv (sz:Nat) (es:List DV)
 | giv (k n:Nat)
 | cel (k n:Nat)
 | wild
 | tup (ds:List DV)
 | nil
 | np
 | und
 | dead
deriving Inhabited

def DV.cells:DV→List DV
 | .st cs=>cs
 | d=>[d]

def flat (es:List DV):List DV:=es.flatMap DV.cells

/-- May it lie in a cell? -/
def DV.cell:DV→Bool
 | .i _ | .y _ | .b _ | .s _ | .w _ | .q _ | .r _ | .sl _ _ | .fn _ _=>true
 | _=>false

mutual
def DV.lend:DV→DV
 | .st cs=>.st (lendL cs)
 | .sl _ es=>.sl 0 (lendL es)
 | .fn f cs=>.fn f (lendL cs)
 | .adr d=>.adr d.lend
 | .cel _ _=>.wild
 | d=>d
def lendL:List DV→List DV
 | []=>[]
 | d :: ds=>d.lend :: lendL ds
end
/-- What a slice may be: 0: from before; 1: new,and the whole of its row; 2: any; 3: new. -/
def adoptP (o:Bool) (p:Nat):Nat:=if p=1 then 1 else if p=3 then 3 else if o=true∧p=0 then 0 else 2
mutual
def DV.adopt (o:Bool):DV→DV
 | .st cs=>.st (adoptL o cs)
 | .sl p es=>.sl (adoptP o p) (adoptL o es)
 | .fn f cs=>.fn f (adoptL o cs)
 | .adr d=>.adr (d.adopt o)
 | .cel _ _=>.wild
 | d=>d
def adoptL (o:Bool):List DV→List DV
 | []=>[]
 | d :: ds=>d.adopt o :: adoptL o ds
end
def newP (p:Nat):Bool:=p == 1 || p == 3
mutual
def DV.allNew:DV→Bool
 | .st cs=>allNewL cs
 | .sl p es=>newP p && allNewL es
 | .fn _ cs=>allNewL cs
 | .adr _=>false
 | _=>true
def allNewL:List DV→Bool
 | []=>true
 | d :: ds=>d.allNew && allNewL ds
end
mutual
def DV.allOld:DV→Bool
 | .st cs=>allOldL cs
 | .sl p es=>p == 0 && allOldL es
 | .fn _ cs=>allOldL cs
 | .i _ | .y _ | .b _ | .s _ | .w _ | .q _ | .r _ | .nil | .dead | .und | .np=>true
 | .oad ..=>true
 | _=>false
def allOldL:List DV→Bool
 | []=>true
 | d :: ds=>d.allOld && allOldL ds
end

abbrev Env:=List (Nat×DV)
abbrev OB:=List (Nat×List DV)

def look:Env→Nat→DV
 | [],_=>.dead
 | (k,d) :: r,t=>if k=t then d else look r t
def put:Env→Nat→DV→Env
 | [],t,d=>[(t,d)]
 | (k,e) :: r,t,d=>if t < k then (t,d) :: (k,e) :: r else if t=k then (t,d) :: r else (k,e) :: put r t d
def lookO:OB→Nat→Option (List DV)
 | [],_=>none
 | (k,d) :: r,t=>if k=t then some d else lookO r t
def putO:OB→Nat→List DV→OB
 | [],t,d=>[(t,d)]
 | (k,e) :: r,t,d=>if t < k then (t,d) :: (k,e) :: r else if t=k then (t,d) :: r else (k,e) :: putO r t d
def dropO (ob:OB) (t:Nat):OB:=ob.filter fun p=>!(p.1 == t)

/-- An object's number tells the slot at which it was made,and the cells of its elements. -/
def mkId (d sz i:Nat):Nat:=512 * d+8 * sz+i
def szId (k:Nat):Nat:=k / 8 % 64

structure LS where
 sl:Env
 ob:OB

inductive Opd where
 | t (n:Nat)
 | c (d:DV)
def LS.get (S:LS):Opd→DV
 | .t n=>look S.sl n
 | .c d=>d

inductive Cv where
 | b2i | i2b | i2i | s2b | b2s | same | i2r | r2s | i2q | q2i | q2q

inductive K where
 | mv
 | newnil (id:Nat)
 | pick
 | bin (op:BinOp)
 | eqb (neg:Bool)
 | eqs (neg:Bool) (n:Nat)
 | un (op:UnOp)
 | len
 | lens
 | chk
 | fld (off sz:Nat) (agg:Bool)
 | fldv (off sz:Nat) (agg:Bool)
 | idxa (sz:Nat)
 | idx
 | load (sz:Nat) (agg:Bool)
 | store (sz:Nat)
 | slice (lo hi:Bool) (sz:Nat)
 | slices (lo hi:Bool)
 | make (id sz:Nat) (z:DV)
 | alloc (id:Nat) (z:DV)
 | box (id:Nat)
 | build (z:List DV) (places:List (Nat×Nat))
 | bslice (id len sz:Nat) (z:DV) (places:List Nat)
 | app (id sz:Nat)
 | conv (v:Cv) (id:Nat)
 | ext (j:Nat)
 | call (f:Nat) (id:Nat)
 | calld (id:Nat)
 | mkfn (f:Nat)
 | mm (mx:Bool)
 | idxp (len sz:Nat)
 | eqn (neg:Bool)
 | callg (f:Nat) (id:Nat)
 | callm (f:Nat) (ms:List Nat) (id:Nat)

structure LOp where
 dst:Option Nat
 k:K
 args:List Opd
 g:Option (Nat×Bool)

inductive Ghost where
 | promote (t id:Nat)
 | freeze (t:Nat)
 | rename (t id:Nat)
 | close_ (t:Nat)
 | shut (t:Nat)
 | cell_ (t id:Nat)

inductive LC where
 | skip
 | ret
 | exit (id:Nat)
 | region (draw:Bool) (ops:List LOp) (kill:List Nat)
 | seq (a b:LC)
 | cond (c:Opd) (kill:List Nat) (x y:LC)
 | block (id:Nat) (b:LC)
 | loop (b:LC)
 | ghost (g:Ghost) (c:LC)
 | void
 | cut (o1:List LOp) (g:Ghost) (o2:List LOp) (kill:List Nat)
 | back (fs:List Nat) (g i x:Nat) (slots:List Nat) (asg:List LOp) (body:LC)

inductive Ex where
 | normal | exit (id:Nat) | ret

def bound:Nat:=1073741824

def wr (n:Int):Int:=IntKind.i64.wrap n

def binI (op:BinOp) (a b:Int):Option DV :=
 match op with
 | .add=>some (.i (wr (a+b)))
 | .sub=>some (.i (wr (a - b)))
 | .mul=>some (.i (wr (a * b)))
 | .quo=>if b=0 then none else some (.i (wr (a.tdiv b)))
 | .rem=>if b=0 then none else some (.i (a.tmod b))
 | .eql=>some (.b (a == b))
 | .neq=>some (.b (a != b))
 | .lss=>some (.b (decide (a < b)))
 | .leq=>some (.b (decide (a≤b)))
 | .gtr=>some (.b (decide (a > b)))
 | .geq=>some (.b (decide (a≥b)))
 | .shl=>if b < 0 then none else some (.i (wr (a * 2 ^ (min b.toNat 64))))
 | .shr=>if b < 0 then none else some (.i (a.fdiv (2 ^ (min b.toNat 64))))
 | .and=>some (.i (wr ((BitVec.ofInt 64 a &&& BitVec.ofInt 64 b).toNat)))
 | .or=>some (.i (wr ((BitVec.ofInt 64 a ||| BitVec.ofInt 64 b).toNat)))
 | .xor=>some (.i (wr ((BitVec.ofInt 64 a ^^^ BitVec.ofInt 64 b).toNat)))
 | .andNot=>some (.i (wr ((BitVec.ofInt 64 a &&& ~~~(BitVec.ofInt 64 b)).toNat)))

/-- Bits of 32: places are told by natural numbers. -/
def shrW (a:BitVec 32) (n:Nat):BitVec 32:=a >>> n
def shlW (a:BitVec 32) (n:Nat):BitVec 32:=a <<< n
def binW (op:BinOp) (a b:BitVec 32):Option DV :=
 match op with
 | .and=>some (.w (a &&& b))
 | .or=>some (.w (a ||| b))
 | .xor=>some (.w (a ^^^ b))
 | .andNot=>some (.w (a &&& ~~~b))
 | .eql=>some (.b (a == b))
 | .neq=>some (.b (!(a == b)))
 | _=>none
def shiftW (op:BinOp) (a:BitVec 32) (n:Int):Option DV :=
 match op with
 | .shl=>if n < 0 then none else some (.w (shlW a (min n.toNat 32)))
 | .shr=>if n < 0 then none else some (.w (shrW a (min n.toNat 32)))
 | _=>none
def shiftQ (op:BinOp) (a:Nat) (n:Int):Option DV :=
 match op with
 | .shl=>if n < 0 then none else some (.q ((a * 2 ^ (min n.toNat 64)) % 18446744073709551616))
 | .shr=>if n < 0 then none else some (.q (a / 2 ^ (min n.toNat 64)))
 | _=>none
def binQ (op:BinOp) (a b:Nat):Option DV :=
 match op with
 | .and=>some (.q (BitVec.ofNat 64 a &&& BitVec.ofNat 64 b).toNat)
 | .add=>some (.q ((a+b) % 18446744073709551616))
 | .mul=>some (.q ((a * b) % 18446744073709551616))
 | .eql=>some (.b (a == b))
 | .shr=>shiftQ .shr a b
 | _=>none

def wr8 (n:Int):Nat:=(n % 256).toNat

def binY (op:BinOp) (a b:Nat):Option DV :=
 match op with
 | .add=>some (.y (wr8 ((a:Int)+b)))
 | .sub=>some (.y (wr8 ((a:Int) - b)))
 | .eql=>some (.b (a == b))
 | .neq=>some (.b (a != b))
 | .lss=>some (.b (decide (a < b)))
 | .leq=>some (.b (decide (a≤b)))
 | .gtr=>some (.b (decide (a > b)))
 | .geq=>some (.b (decide (a≥b)))
 | _=>none

def binS (op:BinOp) (a b:List UInt8):Option DV :=
 match op with
 | .add=>if a.length+b.length≤bound then some (.s (a++b)) else none
 | .eql=>some (.b (a == b))
 | .neq=>some (.b (!(a == b)))
 | .lss=>some (.b (Op.bytesLess a b))
 | .leq=>some (.b (Op.bytesLess a b || a == b))
 | .gtr=>some (.b (!(Op.bytesLess a b || a == b)))
 | .geq=>some (.b (!Op.bytesLess a b))
 | _=>none

def eqI:List DV→List DV→Option Bool
 | [],[]=>some true
 | .i a :: as,.i b :: bs=>if a == b then eqI as bs else some false
 | .w a :: as,.w b :: bs=>if a == b then eqI as bs else some false
 | _,_=>none

def binD (op:BinOp) (x y:DV):Option DV :=
 match x,y with
 | .i a,.i b=>binI op a b
 | .y a,.y b=>binY op a b
 | .s a,.s b=>binS op a b
 | .w a,.w b=>binW op a b
 | .w a,.i b=>shiftW op a b
 | .w a,.q b=>shiftW op a b
 | .q a,.i b=>shiftQ op a b
 | .q a,.q b=>binQ op a b
 | _,_=>none

def unD (op:UnOp) (x:DV):Option DV :=
 match op,x with
 | .not,.b a=>some (.b (!a))
 | .neg,.i a=>some (.i (wr (0 - a)))
 | .xor,.w a=>some (.w (~~~a))
 | .neg,.q a=>some (.q ((18446744073709551616 - a) % 18446744073709551616))
 | _,_=>none

/-- What a slice value holds,if it can be read. -/
def elems (ob:OB):DV→Option (List DV)
 | .sl _ es=>some es
 | .nil=>some []
 | .own k n lo hi=>match lookO ob k with
  | some es=>if es.length=n∧lo≤hi∧hi≤n then some ((es.take hi).drop lo) else none
  | none=>none
 | _=>none

/-- The bytes of what is read. -/
def ysOf:List DV→Option (List UInt8)
 | []=>some []
 | .y n :: r=>match ysOf r with
  | some l=>some (UInt8.ofNat n :: l)
  | none=>none
 | _=>none
def b2sO (ob:OB):Option (List DV)→Option (DV×OB)
 | some es=>(ysOf es).map fun l=>(.s l,ob)
 | none=>none
def wholeP (n lo hi:Nat):Nat:=if lo=0∧hi=n then 1 else 3
/-- A value that is to lie in a cell: an owned slice is given up. -/
def settle (ob:OB):DV→Option (DV×OB)
 | .own k n lo hi=>match elems ob (.own k n lo hi) with
  | some es=>if 5≤k % 8 then none else some (.sl (wholeP n lo hi) es,dropO ob k)
  | none=>none
 | .cel k n=>some (.cel k n,ob)
 | .nil=>some (.sl 1 [],ob)
 | .i n=>some (.i n,ob)
 | .y n=>some (.y n,ob)
 | .b n=>some (.b n,ob)
 | .s n=>some (.s n,ob)
 | .w n=>some (.w n,ob)
 | .q n=>some (.q n,ob)
 | .r n=>some (.r n,ob)
 | .st cs=>some (.st cs,ob)
 | .sl p es=>some (.sl p es,ob)
 | .fn f cs=>some (.fn f cs,ob)
 | _=>none
def settleL (ob:OB):List DV→Option (List DV×OB)
 | []=>some ([],ob)
 | d :: ds=>match settle ob d with
  | some (e,ob1)=>match settleL ob1 ds with
   | some (es,ob2)=>some (e :: es,ob2)
   | none=>none
  | none=>none

def part (cs:List DV) (off sz:Nat) (agg:Bool):Option DV :=
 if agg then (if off+sz≤cs.length then some (.st ((cs.drop off).take sz)) else none) else cs[off]?

/-- Cells laid over cells,from 'off' on. -/
def over (cs:List DV) (off:Nat) (vs:List DV):List DV:=cs.take off++vs++cs.drop (off+vs.length)

def unpart (e:DV) (cs:List DV):DV :=
 match e with
 | .st _=>.st cs
 | _=>cs.headD .dead

def fillP:List DV→List (Nat×Nat)→List DV→Option (List DV)
 | cs,[],[]=>some cs
 | cs,(off,sz) :: ps,v :: vs=>if v.cells.length=sz∧off+sz≤cs.length then fillP (over cs off v.cells) ps vs else none
 | _,_,_=>none

def fillE (sz:Nat):List DV→List Nat→List DV→Option (List DV)
 | es,[],[]=>some es
 | es,i :: ps,v :: vs=>if i < es.length∧v.cells.length=sz then fillE sz (es.set i v) ps vs else none
 | _,_,_=>none

/-- What may be handed to a callee. -/
def lendArg (m:Bool) (ob:OB):DV→Option DV
 | .own k n lo hi=>if m=true then (match lookO ob k with
   | some es=>if es.length=n∧lo=0∧hi=n then some (.fr (szId k) (lendL es)) else none
   | none=>none) else (elems ob (.own k n lo hi)).map fun es=>.sl 0 (lendL es)
 | .giv k n=>match lookO ob k with
  | some es=>if es.length=n∧k % 8≠7∧k % 8≠5 then some (.gv (szId k) (lendL es)) else none
  | none=>none
 | .nil=>some (.sl 0 [])
 | .ref .nil=>some .nil
 | .oad k n 0 0=>match lookO ob k with
  | some [c]=>if n=1 then some (.ref c.lend) else none
  | _=>none
 | .i n=>some (.i n)
 | .y n=>some (.y n)
 | .b n=>some (.b n)
 | .s n=>some (.s n)
 | .w n=>some (.w n)
 | .q n=>some (.q n)
 | .r n=>some (.r n)
 | .fn f cs=>some (.fn f (lendL cs))
 | .adr d=>some (.adr d.lend)
 | .st cs=>some (.st (lendL cs))
 | .sl _ es=>some (.sl 0 (lendL es))
 | _=>none
def lendArgs (m:Bool) (ob:OB):List DV→Option (List DV)
 | []=>some []
 | d :: ds=>match lendArg m ob d with
  | some e=>match lendArgs m ob ds with
   | some es=>some (e :: es)
   | none=>none
  | none=>none
/-- The objects that are handed over by their addresses,and those that are lent to be read. -/
def refKs (m:Bool):List DV→List Nat
 | []=>[]
 | .oad k _ _ _ :: ds=>k :: refKs m ds
 | .own k _ _ _ :: ds=>if m=true then k :: refKs m ds else refKs m ds
 | .giv k _ :: ds=>k :: refKs m ds
 | _ :: ds=>refKs m ds
def ownKs:List DV→List Nat
 | []=>[]
 | .own k _ _ _ :: ds=>k :: ownKs ds
 | _ :: ds=>ownKs ds
def apartKs:List Nat→List Nat→Bool
 | [],_=>true
 | k :: ks,os=>!ks.contains k && !os.contains k && apartKs ks os
def lendsOwn (m:Bool):List DV→Bool
 | []=>false
 | .own .. :: ds=>if m=true then lendsOwn m ds else true
 | _ :: ds=>lendsOwn m ds
/-- What a call lends to be read only. -/
def lentKs (m:Bool) (ds:List DV):List Nat:=if m=true then [] else ownKs ds

def DV.mentions (id:Nat):DV→Bool
 | .own k _ _ _ | .oad k _ _ _=>k == id
 | .giv _ _=>true
 | .tup ds=>ds.any fun | .own k _ _ _ | .oad k _ _ _=>k == id | .giv _ _=>true | _=>false
 | _=>false
def Env.mentions (id:Nat) (e:Env):Bool:=e.any fun p=>p.2.mentions id

/-- A callee's result,taken in by the caller. -/
def takeIn (o:Bool) (fr:Nat→Bool) (ob:OB) (id:Nat):DV→Option (DV×OB)
 | .fr sz es=>if fr (id+8 * sz) && szId (id+8 * sz) == sz && !((id+8 * sz) % 8 == 5) then some (.own (id+8 * sz) es.length 0 es.length,putO ob (id+8 * sz) (adoptL o es)) else none
 | .ref c=>if fr (id+8 * c.cells.length) && szId (id+8 * c.cells.length) == c.cells.length && !((id+8 * c.cells.length) % 8 == 5) then some (.oad (id+8 * c.cells.length) 1 0 0,putO ob (id+8 * c.cells.length) [c.adopt o]) else none
 | .i n=>some (.i n,ob)
 | .y n=>some (.y n,ob)
 | .b n=>some (.b n,ob)
 | .s n=>some (.s n,ob)
 | .w n=>some (.w n,ob)
 | .q n=>some (.q n,ob)
 | .r n=>some (.r n,ob)
 | .st cs=>some (.st (adoptL o cs),ob)
 | .sl p es=>some ((DV.sl p es).adopt o,ob)
 | .np=>some (.np,ob)
 | .fn f cs=>some (.fn f (adoptL o cs),ob)
 | _=>none
def takeInL (o:Bool) (fr:Nat→Bool) (ob:OB) (id:Nat):List DV→Option (List DV×OB)
 | []=>some ([],ob)
 | d :: ds=>match takeIn o fr ob id d with
  | some (e,ob1)=>match takeInL o (fun j=>fr j && !(DV.mentions j e)) ob1 (id+1) ds with
   | some (es,ob2)=>some (e :: es,ob2)
   | none=>none
  | none=>none
/-- The variables that a callee was handed by their addresses. -/
def putRefs (m o:Bool) (ob:OB):List DV→List DV→Option OB
 | [],[]=>some ob
 | .oad k _ _ _ :: ds,c :: cs=>putRefs m o (putO ob k [c.adopt o]) ds cs
 | .oad .. :: _,[]=>none
 | .own k _ _ _ :: ds,cs=>if m=true then (match cs with
   | .fr _ es :: cs=>putRefs m o (putO ob k (adoptL o es)) ds cs
   | _=>none) else putRefs m o ob ds cs
 | .giv k _ :: ds,cs=>putRefs m o (dropO ob k) ds cs
 | _ :: ds,cs=>putRefs m o ob ds cs
 | [],_ :: _=>none

/-- Is all that is lent from before? -/
def oldArg (ob:OB):DV→Bool
 | .nil=>true
 | .oad k _ _ _=>match lookO ob k with
  | some cs=>allOldL cs
  | none=>false
 | .i _ | .y _ | .b _ | .s _ | .w _ | .q _ | .r _=>true
 | .st cs=>allOldL cs
 | .fn _ cs=>allOldL cs
 | .sl p es=>p == 0 && allOldL es
 | _=>false
def oldArgs (ob:OB):List DV→Bool
 | []=>true
 | d :: ds=>oldArg ob d && oldArgs ob ds

def newRes:DV→Bool
 | .fr _ es=>allNewL es
 | .ref c=>c.allNew
 | .tup ds=>go ds
 | d=>d.allNew
where go:List DV→Bool
 | []=>true
 | .fr _ es :: ds=>allNewL es && go ds
 | .ref c :: ds=>c.allNew && go ds
 | d :: ds=>d.allNew && go ds

def newOuts:List DV→Bool
 | []=>true
 | .fr _ es :: ds=>allNewL es && newOuts ds
 | d :: ds=>d.allNew && newOuts ds

abbrev Fns:=Nat→List DV→Option (DV×List DV)

/-- A call whose number is 4 over a multiple of 8 may write into the caller's own slices. -/
def mutB (id:Nat):Bool:=id % 8 == 4
def callD (Γ:Fns) (fr:Nat→Bool) (f id:Nat) (xs:List DV) (ob:OB):Option (DV×OB) :=
 match lendArgs (mutB id) ob xs with
 | none=>none
 | some as=>match Γ f as with
  | none=>none
  | some (r,outs) =>
   if !(lendsOwn (mutB id) xs && !(newRes r && newOuts outs)) && apartKs (refKs (mutB id) xs) (lentKs (mutB id) xs) then
    match putRefs (mutB id) (oldArgs ob xs) ob xs outs with
    | none=>none
    | some ob1=>match r with
     | .tup ds=>match takeInL (oldArgs ob xs) fr ob1 (id+1) ds with
      | some (es,ob2)=>some (.tup es,ob2)
      | none=>none
     | d=>takeIn (oldArgs ob xs) fr ob1 id d
   else none

/-- What a function value may have taken along. -/
def DV.cap:DV→Bool
 | .adr _=>true
 | d=>d.cell
def capsOk (cs:List DV):Bool:=cs.all DV.cap
/-- What a function value takes along: a variable that was made is given up,and only read from now on. -/
def capArg (ob:OB):DV→Option (DV×OB)
 | .oad k n 0 0=>match lookO ob k with
  | some [c]=>if k % 8 < 5∧n=1 then some (.adr c,dropO ob k) else none
  | _=>none
 | .adr c=>some (.adr c,ob)
 | d=>if d.cell=true then some (d,ob) else none
def capL (ob:OB):List DV→Option (List DV×OB)
 | []=>some ([],ob)
 | d :: ds=>match capArg ob d with
  | some (e,ob1)=>match capL ob1 ds with
   | some (es,ob2)=>some (e :: es,ob2)
   | none=>none
  | none=>none
/-- What a function value brings: taken along; or the cells of a struct that is bound ahead of the arguments (then a mark goes first). -/
def DV.capB:DV→Bool
 | .adr _=>false
 | d=>d.cap
def fnOk:List DV→Bool
 | .dead :: cs=>cs.all DV.capB
 | cs=>capsOk cs
def fnArgs (cs r:List DV):List DV:=match cs with
 | .dead :: cs=>.st cs :: r
 | cs=>r++cs
/-- The number of a function value that is made: of one that takes variables along (0),or a struct ahead (1). -/
def mkNo (f b:Nat):Nat:=2 * f+b
theorem mkNo_0 (f:Nat):¬ mkNo f 0 % 2=1∧mkNo f 0 / 2=f:=by unfold mkNo; omega
theorem mkNo_1 (f:Nat):mkNo f 1 % 2=1∧mkNo f 1 / 2=f:=by unfold mkNo; omega
def fnIn (k:Nat) (xs:List DV):List DV:=if k % 2=1 then (match xs with | [.st cs]=>cs | _=>[.tup []]) else xs
def calldD (Γ:Fns) (fr:Nat→Bool) (id:Nat) (xs:List DV) (ob:OB):Option (DV×OB) :=
 match xs with
 | .fn f cs :: r=>if fnOk cs=true then callD Γ fr f id (fnArgs cs r) ob else none
 | _=>none

def sliceS (l:List UInt8) (lo hi:Option Int):Option DV :=
 let h:=hi.getD l.length
 let a:=lo.getD 0
 if 0≤a∧a≤h∧h≤l.length then some (.s ((l.take h.toNat).drop a.toNat)) else none
def cutP (p:Nat):Nat:=if p=1 then 3 else p
def sliceD (ob:OB) (x:DV) (sz:Nat) (lo hi:Option Int):Option DV :=
 match x with
 | .sl p es =>
  let h:=hi.getD es.length
  let a:=lo.getD 0
  if 0≤a∧a≤h∧h≤es.length∧∀ e∈es,e.cells.length=sz then some (.sl (cutP p) ((es.take h.toNat).drop a.toNat)) else none
 | .own k n l0 h0=>match lookO ob k with
  | some es=>if es.length=n∧l0≤h0∧h0≤n∧szId k=sz then
    let h:=hi.getD (h0 - l0:Nat)
    let a:=lo.getD 0
    if 0≤a∧a≤h∧h≤(h0 - l0:Nat) then some (.own k n (l0+a.toNat) (l0+h.toNat)) else none
   else none
  | none=>none
 | _=>none
def bounds (lo hi:Bool) (r:List DV):Option (Option Int×Option Int) :=
 match lo,hi,r with
 | false,false,[]=>some (none,none)
 | true,false,[.i a]=>some (some a,none)
 | false,true,[.i h]=>some (none,some h)
 | true,true,[.i a,.i h]=>some (some a,some h)
 | _,_,_=>none

/-- One operation on values: what it leaves in its slot,and the objects behind it. -/
def effP (fr:Nat→Bool) (k:K) (xs:List DV) (ob:OB):Option (DV×OB) :=
 match k with
 | .mv=>match xs with
  | [x]=>some (x,ob)
  | _=>none
 | .newnil id=>match xs with
  | []=>if fr id then some (.own id 0 0 0,putO ob id []) else none
  | _=>none
 | .pick=>match xs with
  | [.b c,x,y]=>some (if c then x else y,ob)
  | _=>none
 | .bin op=>match xs with
  | [x,y]=>(binD op x y).map (·,ob)
  | _=>none
 | .eqb g=>match xs with
  | [.b x,.b y]=>some (.b (xor g (x == y)),ob)
  | _=>none
 | .eqs g n=>match xs with
  | [.st xs,.st ys]=>if xs.length=n∧ys.length=n then (eqI xs ys).map fun r=>(.b (xor g r),ob) else none
  | _=>none
 | .un op=>match xs with
  | [x]=>(unD op x).map (·,ob)
  | _=>none
 | .lens=>match xs with
  | [.s l]=>some (.i l.length,ob)
  | _=>none
 | .len=>match xs with
  | [.sl _ es]=>some (.i es.length,ob)
  | [.own _ _ lo hi]=>some (.i (hi - lo:Nat),ob)
  | [.nil]=>some (.i 0,ob)
  | _=>none
 | .chk=>match xs with
  | [.adr d]=>some (.adr d,ob)
  | [.oad k n a o]=>some (.oad k n a o,ob)
  | _=>none
 | .fld off sz agg=>match xs with
  | [.adr d]=>(part d.cells off sz agg).map (.adr ·,ob)
  | [.oad k n a o]=>some (.oad k n a (o+off),ob)
  | _=>none
 | .fldv off sz agg=>match xs with
  | [.st cs]=>(part cs off sz agg).map (·,ob)
  | _=>none
 | .idxa sz=>match xs with
  | [.sl _ es,.i n]=>if 0≤n then match es[n.toNat]? with
    | some e=>if e.cells.length=sz then some (.adr e,ob) else none
    | none=>none
   else none
  | [.own k m lo hi,.i n]=>match elems ob (.own k m lo hi) with
   | some es=>if szId k=sz∧0≤n∧n < es.length then some (.oad k m (lo+n.toNat) 0,ob) else none
   | none=>none
  | _=>none
 | .idx=>match xs with
  | [.s l,.i n]=>if 0≤n then (l[n.toNat]?).map (.y ·.toNat,ob) else none
  | _=>none
 | .load sz agg=>match xs with
  | [.adr d]=>(match d with | .st cs=>if agg && cs.length == sz then some d else none | _=>if agg then none else some d).map (·,ob)
  | [.oad k n a o]=>match lookO ob k with
   | some es=>if es.length=n then match es[a]? with
     | some e=>(part e.cells o sz agg).map (·,ob)
     | none=>none
    else none
   | none=>none
  | _=>none
 | .store sz=>match xs with
  | [.oad k n a o,v]=>match settle ob v with
   | some (v',ob1)=>match lookO ob1 k with
    | some es=>if es.length=n∧v'.cells.length=sz then match es[a]? with
      | some e=>if o+sz≤e.cells.length then some (.dead,putO ob1 k (es.set a (unpart e (over e.cells o v'.cells)))) else none
      | none=>none
     else none
    | none=>none
   | none=>none
  | _=>none
 | .slice lo hi sz=>match xs with
  | x :: r=>match bounds lo hi r with
   | some (a,h)=>(sliceD ob x sz a h).map (·,ob)
   | none=>none
  | _=>none
 | .slices lo hi=>match xs with
  | .s l :: r=>match bounds lo hi r with
   | some (a,h)=>(sliceS l a h).map (·,ob)
   | none=>none
  | _=>none
 | .make id _ z=>match xs with
  | [.i n,.i c]=>if fr id∧0≤n∧n≤c∧c≤bound then some (.own id n.toNat 0 n.toNat,putO ob id (List.replicate n.toNat z)) else none
  | _=>none
 | .alloc id z=>match xs with
  | []=>if fr id then some (.oad id 1 0 0,putO ob id [z]) else none
  | _=>none
 | .box id=>match xs with
  | [v]=>match settle ob v with
   | some (v',ob1)=>if fr id∧v'.cells.length=szId id then some (.oad id 1 0 0,putO ob1 id [v']) else none
   | none=>none
  | _=>none
 | .build z ps=>match xs with
  | xs=>match settleL ob xs with
   | some (vs,ob1)=>(fillP z ps vs).map fun cs=>(.st cs,ob1)
   | none=>none
 | .bslice id len sz z ps=>match xs with
  | xs=>match settleL ob xs with
   | some (vs,ob1)=>if fr id∧(id % 8=5→lookO ob1 id=none) then (fillE sz (List.replicate len z) ps vs).map fun es=>(if id % 8=5 then .cel id len else .own id len 0 len,putO ob1 id es) else none
   | none=>none
 | .app id sz=>match xs with
  | [s,x]=>match elems ob x with
   | some news=>if ∀ e∈news,e.cells.length=sz then
     match s with
     | .nil=>if fr id∧szId id=sz∧news.length≤bound then some (.own id news.length 0 news.length,putO ob id news) else none
     | .own k n 0 h=>match lookO ob k with
      | some es=>if k % 8≠7∧szId k=sz∧es.length=n∧h=n∧n+news.length≤bound then some (.own k (n+news.length) 0 (n+news.length),putO ob k (es++news))
       else if k % 8≠7∧szId k=sz∧es.length=n∧h < n∧h+news.length≤bound then
        if h+news.length≤n then some (.own k n 0 (h+news.length),putO ob k (es.take h++news++es.drop (h+news.length)))
        else some (.own k (h+news.length) 0 (h+news.length),putO ob k (es.take h++news))
       else none
      | none=>none
     | .cel k n=>match lookO ob k with
      | some es=>if szId k=sz∧es.length=n∧n+news.length≤bound then some (.cel k (n+news.length),putO ob k (es++news)) else none
      | none=>none
     | _=>none
    else none
   | none=>none
  | _=>none
 | .conv .b2i _=>match xs with
  | [.y n]=>some (.i n,ob)
  | _=>none
 | .conv .i2b _=>match xs with
  | [.i n]=>some (.y (wr8 n),ob)
  | _=>none
 | .conv .i2i _=>match xs with
  | [.i n]=>some (.i (wr n),ob)
  | _=>none
 | .conv .same _=>match xs with
  | [.s l]=>some (.s l,ob)
  | _=>none
 | .conv .i2r _=>match xs with
  | [.i n]=>some (.r (IntKind.i32.wrap n),ob)
  | _=>none
 | .conv .i2q _=>match xs with
  | [.i n]=>some (.q (n % 18446744073709551616).toNat,ob)
  | _=>none
 | .conv .q2i _=>match xs with
  | [.q n]=>some (.i (wr n),ob)
  | _=>none
 | .conv .q2q _=>match xs with
  | [.q n]=>some (.q n,ob)
  | _=>none
 | .conv .r2s _=>match xs with
  | [.r n]=>if 0≤n∧n < 128 then some (.s [n.toNat.toUInt8],ob) else none
  | _=>none
 | .conv .b2s _=>match xs with
  | [x]=>b2sO ob (elems ob x)
  | _=>none
 | .mkfn k=>match capL ob (fnIn k xs) with
  | some (cs,ob1)=>some (.fn (k / 2) (if k % 2=1 then .dead :: cs else cs),ob1)
  | none=>none
 | .ext j=>match xs with
  | [.tup ds]=>(ds[j]?).map (·,ob)
  | _=>none
 | .mm mx=>match xs with
  | [.i a,.i b]=>some (.i (if mx then max a b else min a b),ob)
  | _=>none
 | .idxp len sz=>match xs with
  | [.oad k n a o,.i i]=>if 0≤i∧i < len then some (.oad k n a (o+i.toNat * sz),ob) else none
  | [.adr d,.i i]=>if 0≤i∧i < len then (part d.cells (i.toNat * sz) sz (sz != 1)).map (.adr ·,ob) else none
  | [.adr d,.q i]=>if i < len then (part d.cells (i * sz) sz (sz != 1)).map (.adr ·,ob) else none
  | _=>none
 | .eqn g=>match xs with
  | [x]=>match x with
   | .nil=>some (.b (!g),ob)
   | x=>match elems ob x with
    | some es=>if es.isEmpty=true then none else some (.b g,ob)
    | none=>none
  | _=>none
 | _=>none
/-- The caller's own slices among what is handed over are given up. -/
def giveL (ob:OB):List DV→Option (List DV×OB)
 | []=>some ([],ob)
 | .own k n lo hi :: ds=>match settle ob (.own k n lo hi) with
  | some (e,ob1)=>match giveL ob1 ds with
   | some (es,ob2)=>some (e :: es,ob2)
   | none=>none
  | none=>none
 | d :: ds=>match giveL ob ds with
  | some (es,ob2)=>some (d :: es,ob2)
  | none=>none
def callgD (Γ:Fns) (fr:Nat→Bool) (f id:Nat) (xs:List DV) (ob:OB):Option (DV×OB) :=
 match giveL ob xs with
 | some (ys,ob1)=>callD Γ fr f id ys ob1
 | none=>none
/-- A slice of the caller's own that is handed over for good. -/
def DV.toGiv:DV→DV
 | .own k n lo hi=>if lo=0∧hi=n then .giv k n else .dead
 | .nil=>.ref .nil
 | _=>.dead
/-- The arguments at these places are handed over for good; j: the first one's place. -/
def givAt (ms:List Nat):Nat→List DV→List DV
 | _,[]=>[]
 | j,d :: ds=>(if ms.contains j=true then d.toGiv else d) :: givAt ms (j+1) ds
def givKs:List DV→List Nat
 | []=>[]
 | .giv k _ :: ds=>k :: givKs ds
 | _ :: ds=>givKs ds
/-- What was handed to this frame for good may be what comes back: its number says so. -/
def givFr (ks:List Nat) (fr:Nat→Bool) (id:Nat):Bool:=fr id && ((ks.all fun k=>decide (k % 8 < 6)) || id % 8 == 6)
def callmD (Γ:Fns) (fr:Nat→Bool) (f:Nat) (ms:List Nat) (id:Nat) (xs:List DV) (ob:OB):Option (DV×OB) :=
 callD Γ (givFr (givKs (givAt ms 0 xs)) fr) f id (givAt ms 0 xs) ob
def eff (Γ:Fns) (fr:Nat→Bool) (k:K) (xs:List DV) (ob:OB):Option (DV×OB) :=
 match k with
 | .call f id=>callD Γ fr f id xs ob
 | .callg f id=>callgD Γ fr f id xs ob
 | .callm f ms id=>callmD Γ fr f ms id xs ob
 | .calld id=>calldD Γ fr id xs ob
 | k=>effP fr k xs ob

def putD (e:Env) (d:Option Nat) (v:DV):Env:=match d with
 | some x=>put e x v
 | none=>e

def stepL (Γ:Fns) (o:LOp) (S:LS):Option LS :=
 let go:Option LS:=match eff Γ (fun id=>!(id % 8 == 7) && !Env.mentions id S.sl) o.k (o.args.map S.get) S.ob with
  | some (v,ob)=>some { sl:=putD S.sl o.dst v,ob }
  | none=>none
 match o.g with
 | none=>go
 | some (t,want)=>match look S.sl t with
  | .b x=>if x=want then go else some { S with sl:=putD S.sl o.dst .und }
  | .und=>some { S with sl:=putD S.sl o.dst .und }
  | _=>none

def runL (Γ:Fns):List LOp→LS→Option LS
 | [],S=>some S
 | o :: os,S=>match stepL Γ o S with
  | some S1=>runL Γ os S1
  | none=>none

def DV.noM:DV→Bool
 | .own .. | .oad .. | .tup _ | .giv ..=>false
 | _=>true
def K.isW:K→Bool
 | .newnil _ | .store _ | .make .. | .alloc .. | .box _ | .build .. | .bslice .. | .app .. | .call .. | .calld _ | .callg .. | .callm .. | .mkfn _=>true
 | .conv .s2b _=>true
 | _=>false
def Opd.ment (S:LS) (k:Nat):Opd→Bool
 | .t n=>(look S.sl n).mentions k
 | .c _=>false
/-- What the result speaks of is spoken of by an argument. -/
def subM (S:LS) (args:List Opd):DV→Bool
 | .own k _ _ _ | .oad k _ _ _=>args.any (Opd.ment S k)
 | .tup ds=>ds.all DV.noM
 | .giv ..=>false
 | _=>true
/-- What lay in the slot before is still spoken of. -/
def oldOk (o:LOp) (S:LS) (d:DV):Bool:=match o.dst with
 | some x=>match look S.sl x with
  | .own k _ _ _ | .oad k _ _ _=>d.mentions k
  | .tup _ | .giv ..=>false
  | _=>true
 | none=>true
def quietGo (o:LOp) (S:LS):Bool:=match effP (fun _=>false) o.k (o.args.map S.get) [] with
 | some (d,_)=>subM S o.args d && oldOk o S d
 | none=>false
def quiet (o:LOp) (S:LS):Bool:=match o.g with
 | none=>quietGo o S
 | some (t,want)=>match look S.sl t with
  | .b x=>if x=want then quietGo o S else oldOk o S .und
  | _=>oldOk o S .und
def wquietGo (o:LOp) (S:LS):Bool:=match effP (fun _=>false) o.k (o.args.map S.get) S.ob with
 | some (d,_)=>subM S o.args d && oldOk o S d
 | none=>false
def wquiet (o:LOp) (S:LS):Bool:=match o.g with
 | none=>wquietGo o S
 | some (t,want)=>match look S.sl t with
  | .b x=>if x=want then wquietGo o S else oldOk o S .und
  | _=>oldOk o S .und
/-- It changes no object that is there. -/
def addsK (k:K) (xs:List DV):Bool:=match k with
 | .newnil _ | .make .. | .alloc ..=>true
 | .box _ | .build .. | .bslice ..=>(ownKs xs).isEmpty
 | .call _ id | .calld id=>(refKs (mutB id) xs).isEmpty
 | _=>false
def adds (o:LOp) (S:LS):Bool:=match o.g with
 | none=>addsK o.k (o.args.map S.get)
 | some (t,want)=>match look S.sl t with
  | .b x=>if x=want then addsK o.k (o.args.map S.get) else true
  | _=>true
def K.isStore:K→Bool
 | .store _=>true
 | _=>false
/-- It looks at no more of an object than its length. -/
def K.shape:K→Bool
 | .load ..=>false
 | .eqn _=>false
 | .conv .b2s _=>false
 | _=>true
inductive Mode where
 | free | strong | weak | foot (L:List Nat) | feed (L1 L2 F:List Nat) | late (L:List Nat) | pair (L:List Nat) | pairf (L1 L2 F:List Nat) | mix | ps (L:List Nat)
/-- The rows that grow in their cells,among them. -/
def celKs:List DV→List Nat
 | []=>[]
 | .cel k _ :: ds=>k :: celKs ds
 | _ :: ds=>celKs ds
/-- The objects that it changes. -/
def hitK (k:K) (xs:List DV):List Nat:=match k with
 | .box _ | .build .. | .bslice ..=>ownKs xs
 | .call _ id=>refKs (mutB id) xs
 | .calld id=>refKs (mutB id) xs
 | .callg _ id=>refKs (mutB id) xs++ownKs xs
 | .callm _ _ id=>refKs (mutB id) xs++ownKs xs
 | .mkfn f=>refKs false (fnIn f xs)
 | .app ..=>ownKs (xs.take 1)++celKs (xs.take 1)
 | .store _=>refKs false (xs.take 1)++ownKs xs
 | _=>[]
def clearL (L ks:List Nat):Bool:=ks.all fun k=>!L.contains k
def clears (L:List Nat) (o:LOp) (S:LS):Bool:=match o.g with
 | none=>clearL L (hitK o.k (o.args.map S.get))
 | some (t,want)=>match look S.sl t with
  | .b x=>if x=want then clearL L (hitK o.k (o.args.map S.get)) else true
  | _=>true
def inL (L:List Nat):DV→Bool
 | .own k _ _ _ | .oad k _ _ _=>L.contains k
 | .tup _ | .giv ..=>false
 | _=>true
def argsIn (L:List Nat) (xs:List DV):Bool:=xs.all (inL L)
def ownIds:Env→List Nat
 | []=>[]
 | (_,.own k _ _ _) :: r=>k :: ownIds r
 | _ :: r=>ownIds r
/-- The variables that the slots speak of. -/
def oadIds:Env→List Nat
 | []=>[]
 | (_,.oad k _ _ _) :: r=>k :: oadIds r
 | _ :: r=>oadIds r
/-- All objects that the slots speak of. -/
def objIds:Env→List Nat
 | []=>[]
 | (_,.own k _ _ _) :: r=>k :: objIds r
 | (_,.oad k _ _ _) :: r=>k :: objIds r
 | _ :: r=>objIds r
def argT:List Opd→List Nat
 | []=>[]
 | .t n :: r=>n :: argT r
 | .c _ :: r=>argT r
def K.isApp:K→Bool
 | .app ..=>true
 | _=>false
/-- What the first append of a region looks at. -/
def appT:List LOp→List Nat
 | []=>[]
 | o :: os=>if o.k.isApp=true then argT o.args else appT os
/-- What the literals of a region make. -/
def K.made:K→List Nat
 | .bslice id ..=>[id]
 | _=>[]
def madeIds:List LOp→List Nat
 | []=>[]
 | o :: os=>o.k.made++madeIds os
def dstIn (F:List Nat):Option Nat→Bool
 | some d=>F.contains d
 | none=>false
def allIn (F A:List Nat):Bool:=F.all fun t=>A.contains t
/-- What was in its slot speaks of no object. -/
def plainDst (o:LOp) (S:LS):Bool:=match o.dst with
 | some x=>(look S.sl x).noM
 | none=>true
def scalC:DV→Bool
 | .i _ | .y _ | .b _ | .s _ | .w _ | .q _=>true
 | _=>false
def scal:DV→Bool
 | .st cs=>cs.all scalC
 | d=>scalC d
def K.isLit:K→Bool
 | .bslice .. | .build ..=>true
 | _=>false
/-- A literal is one of values that name nothing. -/
def noCel:List DV→Bool
 | .cel .. :: _=>false
 | _=>true
/-- What a function value takes along is named by nobody. -/
def capV:DV→Bool
 | .adr _=>true
 | d=>scalC d
def K.isMk:K→Bool
 | .mkfn _=>true
 | _=>false
def scalA (k:K) (xs:List DV):Bool:=if k.isLit=true then xs.all scal else (if k.isApp=true then noCel xs else (if k.isMk=true then xs.all capV else true))
def okStep (q:Mode) (o:LOp) (S:LS):Bool:=match q with
 | .free=>true
 | .strong=>o.k.isW || quiet o S
 | .weak=>if o.k.isW then adds o S else wquiet o S
 | .foot L=>if o.k.isW then clears L o S else quiet o S || (wquiet o S && argsIn L (o.args.map S.get))
 | .feed L1 L2 F=>if o.k.isW then (if o.k.isApp=true then clears L1 o S && allIn F (argT o.args) else clears L2 o S) else quiet o S || (wquiet o S && (argsIn L2 (o.args.map S.get) && (argsIn L1 (o.args.map S.get) || dstIn F o.dst)))
 | .late L=>if o.k.isW then (if o.k.isStore=true then (ownKs (o.args.map S.get)).isEmpty else clears L o S) else quiet o S || (wquiet o S && argsIn L (o.args.map S.get))
 | .pair L=>if o.k.isW then clears L o S && plainDst o S else quiet o S || (wquiet o S && argsIn L (o.args.map S.get))
 | .pairf L1 L2 F=>if o.k.isW then (if o.k.isApp=true then clears L1 o S && allIn F (argT o.args) else clears L2 o S) && plainDst o S else quiet o S || (wquiet o S && (argsIn L2 (o.args.map S.get) && (argsIn L1 (o.args.map S.get) || dstIn F o.dst)))
 | .mix=>if o.k.isW then plainDst o S && scalA o.k (o.args.map S.get) else quiet o S
 | .ps L=>if o.k.isW then clears L o S && (plainDst o S && scalA o.k (o.args.map S.get)) else quiet o S || (wquiet o S && argsIn L (o.args.map S.get))
/-- One of the two for a maker and a call. -/
def Mode.isP:Mode→Bool
 | .pair _ | .pairf .. | .ps _=>true
 | _=>false
/-- A call beside a literal of plain values that is read in the region. -/
def Mode.isS:Mode→Bool
 | .ps _=>true
 | _=>false
/-- 1: it makes a variable or a literal; 2: a call. -/
def K.tag:K→Nat
 | .bslice .. | .alloc ..=>1
 | .call .. | .calld _=>2
 | _=>0
def allC:List Opd→Bool
 | []=>true
 | .c _ :: r=>allC r
 | .t _ :: _=>false
def tagA (n:Nat) (b:Bool):Nat:=match b with
 | true=>n
 | false=>if n=1 then 0 else n
def LOp.tag (o:LOp):Nat:=match o.g with
 | some _=>0
 | none=>tagA o.k.tag (allC o.args)
def needG (n:Nat):List LOp→Bool
 | []=>false
 | o :: os=>if o.tag=n then true else needG n os
def Cv.tagM:Cv→Nat
 | .b2s=>6
 | _=>0
/-- 3: an empty literal; 4: one of what slots hold; 6: its bytes are read. -/
def K.tagM:K→Bool→Nat
 | .conv v _,_=>v.tagM
 | .bslice _ n _ _ _,b=>if n=0 then 3 else if b=true then 0 else 4
 | .mkfn _,_=>5
 | _,_=>0
def needH (n:Nat):List LOp→Bool
 | []=>false
 | o :: os=>if o.k.tagM (allC o.args)=n then true else needH n os
/-- Its call is done ahead of nothing but a move. -/
def endS:List LOp→Bool
 | []=>false
 | [m]=>!m.k.isW
 | _ :: _ :: _=>false
def endC:List LOp→Bool
 | []=>false
 | o :: os=>if o.k.tag=2 then endS os else endC os
/-- Does it have both? -/
def needP (ops:List LOp):Bool:=needG 1 ops && needG 2 ops && !(needH 3 ops && needH 4 ops && endC ops)
def runD (Γ:Fns) (q:Mode):List LOp→LS→Option LS
 | [],S=>some S
 | o :: os,S=>if okStep q o S=true then match stepL Γ o S with
   | some S1=>runD Γ q os S1
   | none=>none
  else none
/-- As runD with mix; but what is done last of all may be anything. -/
def runM (Γ:Fns):List LOp→LS→Option LS
 | [],S=>some S
 | [o],S=>stepL Γ o S
 | o :: p :: os,S=>if okStep .mix o S=true then match stepL Γ o S with
   | some S1=>runM Γ (p :: os) S1
   | none=>none
  else none
/-- Two stores? Then what is looked at must be none of what they write. -/
def needS:List LOp→Bool
 | []=>false
 | o :: os=>if o.k.isStore=true then true else needS os
def needN:List LOp→Bool
 | []=>false
 | o :: os=>if o.k.isStore=true then needS os else needN os
def stoK (e:Env):List Opd→List Nat
 | .t n :: _=>match look e n with
  | .oad k _ _ _=>[k]
  | _=>[]
 | _=>[]
/-- The variables that its stores write. -/
def stoIds (e:Env):List LOp→List Nat
 | []=>[]
 | o :: os=>if o.k.isStore=true then stoK e o.args++stoIds e os else stoIds e os
def minusL (M:List Nat):List Nat→List Nat
 | []=>[]
 | k :: r=>if M.contains k=true then minusL M r else k :: minusL M r
def Mode.isL:Mode→Bool
 | .late _=>true
 | _=>false
def lateM (ops:List LOp) (S:LS):Mode:=if needN ops=true then .foot (minusL (stoIds S.sl ops) (objIds S.sl)) else .late (objIds S.sl)
def modeOf (ops:List LOp):Mode:=if ops.any (fun o=>o.k.isW)=true then .strong else .free
def runO (Γ:Fns) (ops:List LOp) (S:LS):Option LS:=match runD Γ (modeOf ops) ops S with
  | some S1=>some S1
  | none=>match runD Γ .weak ops S with
   | some S1=>some S1
   | none=>match runD Γ (.foot (ownIds S.sl)) ops S with
    | some S1=>some S1
    | none=>match runD Γ (.foot (objIds S.sl)) ops S with
     | some S1=>some S1
     | none=>match runD Γ (.foot (oadIds S.sl)) ops S with
      | some S1=>some S1
      | none=>match runD Γ (.feed (oadIds S.sl) (objIds S.sl) (appT ops)) ops S with
       | some S1=>some S1
       | none=>match runD Γ (lateM ops S) ops S with
        | some S1=>some S1
        | none=>match runD Γ (.foot (madeIds ops)) ops S with
         | some S1=>some S1
         | none=>runD Γ (.foot (ownIds S.sl).tail) ops S
def runP (Γ:Fns) (ops:List LOp) (S:LS):Option LS:=match runD Γ (.pair []) ops S with
 | some S1=>some S1
 | none=>match runD Γ (.pair (ownIds S.sl)) ops S with
  | some S1=>some S1
  | none=>match runD Γ (.pair (objIds S.sl)) ops S with
   | some S1=>some S1
   | none=>match runD Γ (.pair (oadIds S.sl)) ops S with
    | some S1=>some S1
    | none=>match runD Γ (.pairf (oadIds S.sl) (objIds S.sl) (appT ops)) ops S with
     | some S1=>some S1
     | none=>runD Γ (.pair (madeIds ops)) ops S
/-- Two calls? -/
def needC:List LOp→Bool
 | []=>false
 | o :: os=>if o.k.tag=2 then true else needC os
def needT:List LOp→Bool
 | []=>false
 | o :: os=>if o.k.tag=2 then needC os else needT os
/-- Does each of its writers look at what the one before gave? -/
def chD (p:Option Nat) (as:List Opd):Bool:=match p with
 | none=>true
 | some d=>(argT as).contains d
def chW (p:Option Nat):List LOp→Bool
 | []=>true
 | o :: os=>if o.k.isW=true then (if chD p o.args=true then chW o.dst os else false) else chW p os
/-- An append to an empty literal beside another literal; or a function value beside calls. -/
def needM (ops:List LOp):Bool:=(needH 3 ops && needH 4 ops && !chW none ops) || (needH 5 ops && needT ops)
def ifP (b:Bool) (x y:Option LS):Option LS:=match b with
 | true=>x
 | false=>y
/-- A call,a literal of what slots hold,and its bytes that are read? -/
def needB (ops:List LOp):Bool:=needH 6 ops && (needH 4 ops && needG 2 ops)
def runS (Γ:Fns) (ops:List LOp) (S:LS):Option LS:=ifP (needB ops) (runD Γ (.ps (madeIds ops)) ops S) (runO Γ ops S)
def runR (Γ:Fns) (d:Bool) (ops:List LOp) (S:LS):Option LS:=match d with
 | false=>runL Γ ops S
 | true=>ifP (needP ops) (runP Γ ops S) (ifP (needM ops) (runM Γ ops S) (runS Γ ops S))

def killE (ks:List Nat) (e:Env):Env:=e.filter fun p=>!ks.contains p.1
def sweep (e:Env) (ob:OB):OB:=ob.filter fun p=>p.1 % 8 == 5 || Env.mentions p.1 e

def LS.drop (S:LS) (kill:List Nat):LS:=match kill with
 | []=>S
 | _=>{ sl:=killE kill S.sl,ob:=sweep (killE kill S.sl) S.ob }

def regionL (Γ:Fns) (d:Bool) (ops:List LOp) (kill:List Nat) (S:LS):Option LS :=
 match runR Γ d ops S with
 | some S1=>some (S1.drop kill)
 | none=>none

/-- It speaks of no new memory but by its number. -/
def DV.aside:DV→Bool
 | .adr _ | .tup _ | .ref _ | .fr .. | .cel _ _ | .wild=>false
 | .st cs=>allOldL cs
 | .fn _ cs=>allOldL cs
 | .sl p es=>p == 0 && allOldL es
 | _=>true
def asideE (t:Nat):Env→Bool
 | []=>true
 | (k,d) :: r=>(k == t || d.aside) && asideE t r
def asideO:OB→Bool
 | []=>true
 | (_,es) :: r=>allOldL es && asideO r

mutual
/-- It speaks of no row that grows in a cell. -/
def DV.noCel:DV→Bool
 | .st cs=>noCelL cs
 | .sl _ es=>noCelL es
 | .fn _ cs=>noCelL cs
 | .adr d=>d.noCel
 | .cel _ _ | .tup _ | .ref _ | .fr .. | .gv ..=>false
 | _=>true
def noCelL:List DV→Bool
 | []=>true
 | d :: ds=>d.noCel && noCelL ds
end
def noCelE:Env→Bool
 | []=>true
 | (_,d) :: r=>d.noCel && noCelE r
def noCelO (k:Nat):OB→Bool
 | []=>true
 | (j,es) :: r=>(j == k || noCelL es) && noCelO k r

def ghostL:Ghost→LS→Option LS
 | .shut t,S=>match look S.sl t with
  | .own k n 0 h=>match lookO S.ob k with
   | some es=>if es.length=n∧h=n then (match es.getLast? with
    | some (.cel j m)=>match lookO S.ob j with
     | some rs=>if k % 8≠7∧k % 8≠5∧rs.length=m∧noCelE S.sl=true∧noCelO k S.ob=true∧noCelL es.dropLast=true then
       some { S with ob:=dropO (putO S.ob k (es.dropLast++[.sl 1 rs])) j } else none
     | none=>none
    | _=>some S) else none
   | none=>none
  | _=>none
 | .promote t id,S=>match look S.sl t with
  | .sl 1 (e :: es)=>if id % 8≠7∧id % 8≠5∧0 < szId id∧szId id=e.cells.length∧Env.mentions id S.sl=false∧asideE t S.sl=true∧asideO S.ob=true∧allOldL (e :: es)=true then
    some { sl:=put S.sl t (.own id (es.length+1) 0 (es.length+1)),ob:=putO S.ob id (e :: es) } else none
  | _=>none
 | .rename t id,S=>match look S.sl t with
  | .own k n lo hi=>if k=id then some S else match lookO S.ob k with
   | some es=>if k % 8≠7∧id % 8≠7∧k % 8≠5∧id % 8≠5∧(k % 8=6→id % 8=6)∧szId k=szId id∧es.length=n∧Env.mentions id S.sl=false then
     some { sl:=put S.sl t (.own id n lo hi),ob:=putO (dropO S.ob k) id es } else none
   | none=>none
  | _=>some S
 | .cell_ t id,S=>match look S.sl t with
  | .own k n 0 h=>match lookO S.ob k with
   | some es=>if k % 8 < 5∧id % 8=5∧szId k=szId id∧es.length=n∧h=n∧lookO S.ob id=none∧Env.mentions id S.sl=false then
     some { sl:=put S.sl t (.cel id n),ob:=putO (dropO S.ob k) id es } else none
   | none=>none
  | _=>none
 | .close_ t,S=>match look S.sl t with
  | .oad k n 0 0=>match lookO S.ob k with
   | some [c]=>if k % 8 < 5∧n=1 then some { sl:=put S.sl t (.adr c),ob:=dropO S.ob k } else none
   | _=>none
  | _=>none
 | .freeze t,S=>match look S.sl t with
  | .own k n lo hi=>match elems S.ob (.own k n lo hi) with
   | some es=>if 5≤k % 8 then none else some { sl:=put S.sl t (.sl (wholeP n lo hi) es),ob:=dropO S.ob k }
   | none=>none
  | _=>none

/-- The frame in which a call begins. -/
def enter:Nat→List DV→LS→LS
 | _,[],S=>S
 | j,.ref c :: ds,S=>enter (j+1) ds { sl:=put S.sl j (.oad (mkId j c.cells.length 7) 1 0 0),ob:=putO S.ob (mkId j c.cells.length 7) [c] }
 | j,.fr sz es :: ds,S=>enter (j+1) ds { sl:=put S.sl j (.own (mkId j sz 7) es.length 0 es.length),ob:=putO S.ob (mkId j sz 7) es }
 | j,.gv sz es :: ds,S=>enter (j+1) ds { sl:=put S.sl j (.own (mkId j sz 6) es.length 0 es.length),ob:=putO S.ob (mkId j sz 6) es }
 | j,d :: ds,S=>enter (j+1) ds { S with sl:=put S.sl j d }

/-- What the variables hold that came in by their addresses. -/
def outs (ob:OB):Nat→List DV→Option (List DV)
 | _,[]=>some []
 | j,.ref c0 :: ds=>match lookO ob (mkId j c0.cells.length 7) with
  | some [c]=>match outs ob (j+1) ds with
   | some cs=>some (c :: cs)
   | none=>none
  | _=>none
 | j,.fr sz _ :: ds=>match lookO ob (mkId j sz 7) with
  | some es=>match outs ob (j+1) ds with
   | some cs=>some (.fr sz es :: cs)
   | none=>none
  | none=>none
 | j,_ :: ds=>outs ob (j+1) ds

/-- Operations that make nothing,one by one. -/
def runQ:List LOp→Env→OB→Option (Env×OB)
 | [],e,ob=>some (e,ob)
 | ⟨d,k,as,none⟩ :: os,e,ob=>match effP (fun _=>false) k (as.map (LS.get ⟨e,ob⟩)) ob with
  | some (v,ob1)=>runQ os (putD e d v) ob1
  | none=>none
 | ⟨_,_,_,some _⟩ :: _,_,_=>none
/-- What a round looks at,in the slots of old. -/
def reslot:List Nat→Nat→Env→Env
 | [],_,_=>[]
 | s :: ss,j,e=>(s,look e j) :: reslot ss (j+1) e
/-- A row's element that is one cell. -/
def DV.oneC:DV→Bool
 | .st _=>false
 | d=>d.cells.length == 1
/-- One round of a range over a function: a call,as it were,that is handed what lies in its slots. -/
def roundL (f:LS→Option (Ex×LS)) (i x:Nat) (slots:List Nat) (asg:List LOp) (e:DV) (k:Nat) (S:LS):Option LS :=
 match runQ asg (put (put S.sl i (.i k)) x e) S.ob with
 | some (e1,ob1)=>match lendArgs false ob1 (slots.map (look e1)) with
  | some as=>match f ⟨reslot slots 0 (enter 0 as ⟨[],[]⟩).sl,(enter 0 as ⟨[],[]⟩).ob⟩ with
   | some (.normal,S1)=>match outs S1.ob 0 as with
    | some cs=>if ((!lendsOwn false (slots.map (look e1)) || newOuts cs) && apartKs (refKs false (slots.map (look e1))) (lentKs false (slots.map (look e1))))=true then
      match putRefs false (oldArgs ob1 (slots.map (look e1))) ob1 (slots.map (look e1)) cs with
      | some ob2=>some ⟨S.sl,ob2⟩
      | none=>none
     else none
    | none=>none
   | _=>none
  | none=>none
 | none=>none
/-- The rounds over a row,the last element first. -/
def backL (f:DV→Nat→LS→Option LS):List DV→LS→Option LS
 | [],S=>some S
 | e :: r,S=>match f e r.length S with
  | some S1=>backL f r S1
  | none=>none
def LC.noBack:LC→Bool
 | .seq a b | .cond _ _ a b=>a.noBack && b.noBack
 | .block _ b | .loop b | .ghost _ b=>b.noBack
 | .back ..=>false
 | _=>true
/-- The row that is ranged over,if this is such a function. -/
def backRow (fs:List Nat):DV→Option (List DV)
 | .fn f [.adr (.sl _ es)]=>if (fs.contains f && es.all DV.oneC)=true then some es else none
 | _=>none

def iter:Nat→(LS→Option (Ex×LS))→LS→Option (Ex×LS)
 | 0,_,_=>none
 | n+1,f,S=>match f S with
  | some (.normal,S1)=>iter n f S1
  | r=>r

def exec (Γ:Fns) (n:Nat):LC→LS→Option (Ex×LS)
 | .skip,S=>some (.normal,S)
 | .ret,S=>some (.ret,S)
 | .exit id,S=>some (.exit id,S)
 | .region d ops kill,S=>(regionL Γ d ops kill S).map (.normal,·)
 | .seq a b,S=>match exec Γ n a S with
  | some (.normal,S1)=>exec Γ n b S1
  | r=>r
 | .cond c kill x y,S=>match S.get c with
  | .b true=>exec Γ n x (S.drop kill)
  | .b false=>exec Γ n y (S.drop kill)
  | _=>none
 | .block id b,S=>match exec Γ n b S with
  | some (.exit j,S1)=>if j=id then some (.normal,S1) else some (.exit j,S1)
  | r=>r
 | .loop b,S=>iter n (exec Γ n b) S
 | .ghost g c,S=>match ghostL g S with
  | some S1=>exec Γ n c S1
  | none=>none
 | .void,S=>none
 | .cut o1 g o2 kill,S=>match regionL Γ false o1 [] S with
  | some S1=>match ghostL g S1 with
   | some S2=>(regionL Γ false o2 kill S2).map (.normal,·)
   | none=>none
  | none=>none
 | .back fs g i x slots asg body,S=>match backRow fs (look S.sl g) with
  | some es=>if (body.noBack && slots.all (fun s=>decide (s < 1048576)))=true then (backL (roundL (exec Γ n body) i x slots asg) es.reverse S).map (.normal,·) else none
  | none=>none

inductive ResL where
 | t (n:Nat)
 | c (n sz:Nat) (agg:Bool)

/-- 'gl': the tables of the package level that it reads,by their numbers. -/
structure LF where
 body:LC
 nparams:Nat
 results:List ResL
 gl:List Nat:=[]
 /-- What it answers,where this is known by other means than its text. -/
 prim:Option (List DV→Option (DV×List DV)):=none
/-- It is read by its text,and takes so many. -/
def LF.arity (F:LF):Option Nat:=match F.prim with
 | none=>some F.nparams
 | some _=>none

/-- The tables of the package level,and what they hold. -/
class GL where
 gl:List (Nat×DV)
 /-- The functions that write into the slices that they are handed. -/
 muts:List Nat
 /-- Where a slice is told that may be nil: the places in the text at which it is made. -/
 nils:List String
 /-- The functions that may hand back what they are handed. -/
 gives:List Nat
 /-- The functions that are handed a slice for good,and the places of it. -/
 moves:List (Nat×List Nat)
 /-- Where what comes back may be what this frame was handed for good: slot,function,and the mark of its number. -/
 sixes:List (Nat×Nat×Nat)
 /-- The places in the text at which a row is made that will lie in a cell and grow there. -/
 fives:List String
 /-- The functions that range over a row from its end on: what slices.Backward gives. -/
 backs:List Nat
def gslot (g:Nat):Nat:=1048576+g
def gAt:List (Nat×DV)→Nat→Env
 | [],_=>[]
 | (k,d) :: r,g=>if k=g then [(gslot g,.adr d)] else gAt r g
def gEnv [GL] (l:List Nat):Env:=l.flatMap (gAt GL.gl)

/-- What a call hands back. -/
def giveBack (ob:OB):DV→Option (DV×OB)
 | .own k n lo hi=>match lookO ob k with
  | some es=>if k % 8≠7∧k % 8≠5∧es.length=n∧lo=0∧hi=n then some (.fr (szId k) es,dropO ob k) else none
  | none=>none
 | .oad k n 0 0=>match lookO ob k with
  | some [c]=>if k % 8 < 5∧n=1 then some (.ref c,dropO ob k) else none
  | _=>none
 | .nil=>some (.sl 1 [],ob)
 | .i n=>some (.i n,ob)
 | .y n=>some (.y n,ob)
 | .b n=>some (.b n,ob)
 | .s n=>some (.s n,ob)
 | .w n=>some (.w n,ob)
 | .q n=>some (.q n,ob)
 | .r n=>some (.r n,ob)
 | .st cs=>some (.st cs,ob)
 | .sl p es=>some (.sl p es,ob)
 | .np=>some (.np,ob)
 | .fn f cs=>some (.fn f cs,ob)
 | _=>none
def giveBackL (ob:OB):List DV→Option (List DV×OB)
 | []=>some ([],ob)
 | d :: ds=>match giveBack ob d with
  | some (e,ob1)=>match giveBackL ob1 ds with
   | some (es,ob2)=>some (e :: es,ob2)
   | none=>none
  | none=>none
def resV (S:LS):List ResL→Option (List DV)
 | []=>some []
 | .t n :: rs=>(resV S rs).map (look S.sl n :: ·)
 | .c n sz agg :: rs=>match effP (fun _=>false) (.load sz agg) [look S.sl n] S.ob with
  | some (d,_)=>(resV S rs).map (d :: ·)
  | none=>none

def leave (F:LF) (args:List DV) (S:LS):Option (DV×List DV) :=
 match resV S F.results with
 | none=>none
 | some vs=>match giveBackL S.ob vs with
  | none=>none
  | some (rs,ob)=>match outs ob 0 args with
   | none=>none
   | some cs=>some (match rs with | [r]=>r | rs=>.tup rs,cs)

def callN [GL] (lf:Nat→Option LF):Nat→Fns
 | 0,_,_=>none
 | n+1,f,args=>match lf f with
  | none=>none
  | some F=>match F.prim with
   | some g=>g args
   | none=>if args.length=F.nparams then
    match exec (callN lf n) n F.body (enter 0 args ⟨gEnv F.gl,[]⟩) with
    | some (.normal,S) | some (.ret,S)=>leave F args S
    | _=>none
   else none
end Go.Lg

namespace Go.Lg

def Le (Γ Δ:Fns):Prop:=∀ f a r,Γ f a=some r→Δ f a=some r
theorem Le.refl (Γ:Fns):Le Γ Γ:=fun _ _ _ h=>h
theorem Le.trans {Γ Δ Θ:Fns} (h:Le Γ Δ) (k:Le Δ Θ):Le Γ Θ:=fun _ _ _ e=>k _ _ _ (h _ _ _ e)

theorem callD_mono {Γ Δ:Fns} (h:Le Γ Δ) {fr:Nat→Bool} {f id:Nat} {xs:List DV} {ob:OB} {r} (e:callD Γ fr f id xs ob=some r):callD Δ fr f id xs ob=some r:=by
 unfold callD at *
 split at e
 ·exact e
 ·rename_i as has
  split at e
  ·cases e
  ·rename_i r0 outs hr
   rw [h _ _ _ hr]
   exact e

theorem eff_call (Γ:Fns) (fr:Nat→Bool) (f id:Nat) (xs:List DV) (ob:OB):eff Γ fr (.call f id) xs ob=callD Γ fr f id xs ob:=by
 unfold eff; rfl

theorem eff_calld (Γ:Fns) (fr:Nat→Bool) (id:Nat) (xs:List DV) (ob:OB):eff Γ fr (.calld id) xs ob=calldD Γ fr id xs ob:=by
 unfold eff; rfl
theorem calldD_some {Γ:Fns} {fr:Nat→Bool} {id:Nat} {xs:List DV} {ob:OB} {r} (e:calldD Γ fr id xs ob=some r):∃ f cs ys,xs=.fn f cs :: ys∧fnOk cs=true∧callD Γ fr f id (fnArgs cs ys) ob=some r:=by
 unfold calldD at e
 split at e
 ·rename_i f cs ys
  split at e
  ·rename_i hc; exact ⟨f,cs,ys,rfl,hc,e⟩
  ·cases e
 ·cases e
theorem eff_callg (Γ:Fns) (fr:Nat→Bool) (f id:Nat) (xs:List DV) (ob:OB):eff Γ fr (.callg f id) xs ob=callgD Γ fr f id xs ob:=by
 unfold eff; rfl
theorem callgD_some {Γ:Fns} {fr:Nat→Bool} {f id:Nat} {xs:List DV} {ob:OB} {r} (e:callgD Γ fr f id xs ob=some r):∃ ys ob1,giveL ob xs=some (ys,ob1)∧callD Γ fr f id ys ob1=some r:=by
 unfold callgD at e
 split at e
 ·rename_i ys ob1 h; exact ⟨ys,ob1,h,e⟩
 ·cases e
theorem eff_callm (Γ:Fns) (fr:Nat→Bool) (f:Nat) (ms:List Nat) (id:Nat) (xs:List DV) (ob:OB):eff Γ fr (.callm f ms id) xs ob=callD Γ (givFr (givKs (givAt ms 0 xs)) fr) f id (givAt ms 0 xs) ob:=by
 unfold eff; rfl
theorem eff_mono {Γ Δ:Fns} (h:Le Γ Δ) {fr:Nat→Bool} {k:K} {xs:List DV} {ob:OB} {r} (e:eff Γ fr k xs ob=some r):eff Δ fr k xs ob=some r:=by
 cases k with
 | call f id=>rw [eff_call] at *; exact callD_mono h e
 | calld id =>
  rw [eff_calld] at *
  obtain ⟨f,cs,ys,rfl,hc,e⟩:=calldD_some e
  simp only [calldD,hc,if_true]
  exact callD_mono h e
 | callg f id =>
  rw [eff_callg] at *
  obtain ⟨ys,ob1,hg,e⟩:=callgD_some e
  simp only [callgD,hg]
  exact callD_mono h e
 | callm f ms id=>rw [eff_callm] at *; exact callD_mono h e
 | _=>exact e

theorem stepL_mono {Γ Δ:Fns} (h:Le Γ Δ) {o:LOp} {S S1:LS} (e:stepL Γ o S=some S1):stepL Δ o S=some S1:=by
 have key:∀ {r},eff Γ (fun id=>!(id % 8 == 7) && !Env.mentions id S.sl) o.k (o.args.map S.get) S.ob=some r→eff Δ (fun id=>!(id % 8 == 7) && !Env.mentions id S.sl) o.k (o.args.map S.get) S.ob=some r:=fun e=>eff_mono h e
 have go:∀ {x y:Option (DV×OB)} {g:DV×OB→Option LS},(∀ r,x=some r→y=some r)→(match x with | some (v,ob)=>g (v,ob) | none=>none)=some S1→(match y with | some (v,ob)=>g (v,ob) | none=>none)=some S1:=by
  intro x y g hxy e
  cases x with
  | none=>cases e
  | some r=>rw [hxy r rfl]; exact e
 unfold stepL at *
 simp only at *
 split at e
 ·exact go (g:=fun p=>some { sl:=putD S.sl o.dst p.1,ob:=p.2 }) (fun _=>key) e
 ·split at e
  ·split at e
   ·rename_i hx; rw [if_pos hx]; exact go (g:=fun p=>some { sl:=putD S.sl o.dst p.1,ob:=p.2 }) (fun _=>key) e
   ·rename_i hx; rw [if_neg hx]; exact e
  ·exact e
  ·cases e

theorem runL_mono {Γ Δ:Fns} (h:Le Γ Δ):∀ {ops:List LOp} {S S1:LS},runL Γ ops S=some S1→runL Δ ops S=some S1
 | [],_,_,e=>e
 | o :: os,S,S1,e=>by
  simp only [runL] at *
  cases hs:stepL Γ o S with
  | none=>rw [hs] at e; cases e
  | some S2=>rw [hs] at e; rw [stepL_mono h hs]; exact runL_mono h e

theorem runD_mono {Γ Δ:Fns} (h:Le Γ Δ) {q:Mode}:∀ {ops:List LOp} {S S1:LS},runD Γ q ops S=some S1→runD Δ q ops S=some S1
 | [],_,_,e=>e
 | o :: os,S,S1,e=>by
  simp only [runD] at *
  split at e
  ·rename_i ho
   rw [if_pos ho]
   cases hs:stepL Γ o S with
   | none=>rw [hs] at e; cases e
   | some S2=>rw [hs] at e; rw [stepL_mono h hs]; exact runD_mono h e
  ·cases e
theorem runM_mono {Γ Δ:Fns} (h:Le Γ Δ):∀ {ops:List LOp} {S S1:LS},runM Γ ops S=some S1→runM Δ ops S=some S1
 | [],_,_,e=>e
 | [o],_,_,e=>stepL_mono h e
 | o :: p :: os,S,S1,e=>by
  simp only [runM] at *
  split at e
  ·rename_i ho
   rw [if_pos ho]
   cases hs:stepL Γ o S with
   | none=>rw [hs] at e; cases e
   | some S2=>rw [hs] at e; rw [stepL_mono h hs]; exact runM_mono h e
  ·cases e
theorem runD_runL {Γ:Fns} {q:Mode}:∀ {ops:List LOp} {S S1:LS},runD Γ q ops S=some S1→runL Γ ops S=some S1
 | [],_,_,e=>e
 | o :: os,S,S1,e=>by
  simp only [runD,runL] at *
  split at e
  ·cases hs:stepL Γ o S with
   | none=>rw [hs] at e; cases e
   | some S2=>rw [hs] at e; exact runD_runL e
  ·cases e
theorem runO_some {Γ:Fns} {q:Mode} {ops:List LOp} {S S1:LS} (hq:q=modeOf ops∨q=.weak∨q=.foot (ownIds S.sl)∨q=.foot (objIds S.sl)∨q=.foot (oadIds S.sl)∨q=.feed (oadIds S.sl) (objIds S.sl) (appT ops)∨q=lateM ops S∨q=.foot (madeIds ops)∨q=.foot (ownIds S.sl).tail) (h:runD Γ q ops S=some S1):runO Γ ops S=some S1:=by
 have hl:=runD_runL h
 have same:∀ {q':Mode} {S2:LS},runD Γ q' ops S=some S2→S2=S1:=fun h2=>by
  have:=runD_runL h2; rw [hl] at this; injection this with this; exact this.symm
 simp only [runO]
 cases h1:runD Γ (modeOf ops) ops S with
 | some S2=>simp only [same h1]
 | none =>
  simp only
  cases h2:runD Γ .weak ops S with
  | some S2=>simp only [same h2]
  | none =>
   simp only
   cases h3:runD Γ (.foot (ownIds S.sl)) ops S with
   | some S2=>simp only [same h3]
   | none =>
    simp only
    cases h4:runD Γ (.foot (objIds S.sl)) ops S with
    | some S2=>simp only [same h4]
    | none =>
     simp only
     cases h5:runD Γ (.foot (oadIds S.sl)) ops S with
     | some S2=>simp only [same h5]
     | none =>
      simp only
      cases h6:runD Γ (.feed (oadIds S.sl) (objIds S.sl) (appT ops)) ops S with
      | some S2=>simp only [same h6]
      | none =>
       simp only
       cases h7:runD Γ (lateM ops S) ops S with
       | some S2=>simp only [same h7]
       | none =>
        simp only
        cases h8:runD Γ (.foot (madeIds ops)) ops S with
        | some S2=>simp only [same h8]
        | none =>
         rcases hq with rfl | rfl | rfl | rfl | rfl | rfl | rfl | rfl | rfl
         ·rw [h1] at h; cases h
         ·rw [h2] at h; cases h
         ·rw [h3] at h; cases h
         ·rw [h4] at h; cases h
         ·rw [h5] at h; cases h
         ·rw [h6] at h; cases h
         ·rw [h7] at h; cases h
         ·rw [h8] at h; cases h
         ·exact h
theorem runO_ex {Γ:Fns} {ops:List LOp} {S S1:LS} (h:runO Γ ops S=some S1):∃ q,(q=modeOf ops∨q=.weak∨q=.foot (ownIds S.sl)∨q=.foot (objIds S.sl)∨q=.foot (oadIds S.sl)∨q=.feed (oadIds S.sl) (objIds S.sl) (appT ops)∨q=lateM ops S∨q=.foot (madeIds ops)∨q=.foot (ownIds S.sl).tail)∧runD Γ q ops S=some S1:=by
 simp only [runO] at h
 cases h1:runD Γ (modeOf ops) ops S with
 | some S2=>rw [h1] at h; exact ⟨_,.inl rfl,h1.trans h⟩
 | none =>
  rw [h1] at h
  simp only at h
  cases h2:runD Γ .weak ops S with
  | some S2=>rw [h2] at h; exact ⟨_,.inr (.inl rfl),h2.trans h⟩
  | none =>
   rw [h2] at h
   simp only at h
   cases h3:runD Γ (.foot (ownIds S.sl)) ops S with
   | some S2=>rw [h3] at h; exact ⟨_,.inr (.inr (.inl rfl)),h3.trans h⟩
   | none =>
    rw [h3] at h
    simp only at h
    cases h4:runD Γ (.foot (objIds S.sl)) ops S with
    | some S2=>rw [h4] at h; exact ⟨_,.inr (.inr (.inr (.inl rfl))),h4.trans h⟩
    | none =>
     rw [h4] at h
     simp only at h
     cases h5:runD Γ (.foot (oadIds S.sl)) ops S with
     | some S2=>rw [h5] at h; exact ⟨_,.inr (.inr (.inr (.inr (.inl rfl)))),h5.trans h⟩
     | none =>
      rw [h5] at h
      simp only at h
      cases h6:runD Γ (.feed (oadIds S.sl) (objIds S.sl) (appT ops)) ops S with
      | some S2=>rw [h6] at h; exact ⟨_,.inr (.inr (.inr (.inr (.inr (.inl rfl))))),h6.trans h⟩
      | none =>
       rw [h6] at h
       simp only at h
       cases h7:runD Γ (lateM ops S) ops S with
       | some S2=>rw [h7] at h; exact ⟨_,.inr (.inr (.inr (.inr (.inr (.inr (.inl rfl)))))),h7.trans h⟩
       | none =>
        rw [h7] at h
        simp only at h
        cases h8:runD Γ (.foot (madeIds ops)) ops S with
        | some S2=>rw [h8] at h; exact ⟨_,.inr (.inr (.inr (.inr (.inr (.inr (.inr (.inl rfl))))))),h8.trans h⟩
        | none=>rw [h8] at h; exact ⟨_,.inr (.inr (.inr (.inr (.inr (.inr (.inr (.inr rfl))))))),h⟩
def modeO (ops:List LOp) (S:LS) (q:Mode):Prop:=q=modeOf ops∨q=.weak∨q=.foot (ownIds S.sl)∨q=.foot (objIds S.sl)∨q=.foot (oadIds S.sl)∨q=.feed (oadIds S.sl) (objIds S.sl) (appT ops)∨q=lateM ops S∨q=.foot (madeIds ops)∨q=.foot (ownIds S.sl).tail
def modeP (ops:List LOp) (S:LS) (q:Mode):Prop:=q=.pair []∨q=.pair (ownIds S.sl)∨q=.pair (objIds S.sl)∨q=.pair (oadIds S.sl)∨q=.pairf (oadIds S.sl) (objIds S.sl) (appT ops)∨q=.pair (madeIds ops)
theorem runP_some {Γ:Fns} {q:Mode} {ops:List LOp} {S S1:LS} (hq:modeP ops S q) (h:runD Γ q ops S=some S1):runP Γ ops S=some S1:=by
 have hl:=runD_runL h
 have same:∀ {q':Mode} {S2:LS},runD Γ q' ops S=some S2→S2=S1:=fun h2=>by
  have:=runD_runL h2; rw [hl] at this; injection this with this; exact this.symm
 simp only [runP]
 cases h1:runD Γ (.pair []) ops S with
 | some S2=>simp only [same h1]
 | none =>
  simp only
  cases h2:runD Γ (.pair (ownIds S.sl)) ops S with
  | some S2=>simp only [same h2]
  | none =>
   simp only
   cases h3:runD Γ (.pair (objIds S.sl)) ops S with
   | some S2=>simp only [same h3]
   | none =>
    simp only
    cases h4:runD Γ (.pair (oadIds S.sl)) ops S with
    | some S2=>simp only [same h4]
    | none =>
     simp only
     cases h5:runD Γ (.pairf (oadIds S.sl) (objIds S.sl) (appT ops)) ops S with
     | some S2=>simp only [same h5]
     | none =>
      rcases hq with rfl | rfl | rfl | rfl | rfl | rfl
      ·rw [h1] at h; cases h
      ·rw [h2] at h; cases h
      ·rw [h3] at h; cases h
      ·rw [h4] at h; cases h
      ·rw [h5] at h; cases h
      ·exact h
theorem runP_ex {Γ:Fns} {ops:List LOp} {S S1:LS} (h:runP Γ ops S=some S1):∃ q,modeP ops S q∧runD Γ q ops S=some S1:=by
 simp only [runP] at h
 cases h1:runD Γ (.pair []) ops S with
 | some S2=>rw [h1] at h; exact ⟨_,.inl rfl,h1.trans h⟩
 | none =>
  rw [h1] at h
  simp only at h
  cases h2:runD Γ (.pair (ownIds S.sl)) ops S with
  | some S2=>rw [h2] at h; exact ⟨_,.inr (.inl rfl),h2.trans h⟩
  | none =>
   rw [h2] at h
   simp only at h
   cases h3:runD Γ (.pair (objIds S.sl)) ops S with
   | some S2=>rw [h3] at h; exact ⟨_,.inr (.inr (.inl rfl)),h3.trans h⟩
   | none =>
    rw [h3] at h
    simp only at h
    cases h4:runD Γ (.pair (oadIds S.sl)) ops S with
    | some S2=>rw [h4] at h; exact ⟨_,.inr (.inr (.inr (.inl rfl))),h4.trans h⟩
    | none =>
     rw [h4] at h
     simp only at h
     cases h5:runD Γ (.pairf (oadIds S.sl) (objIds S.sl) (appT ops)) ops S with
     | some S2=>rw [h5] at h; exact ⟨_,.inr (.inr (.inr (.inr (.inl rfl)))),h5.trans h⟩
     | none=>rw [h5] at h; exact ⟨_,.inr (.inr (.inr (.inr (.inr rfl)))),h⟩
def modeS (ops:List LOp) (S:LS) (q:Mode):Prop:=(needB ops=true∧q=.ps (madeIds ops))∨(needB ops=false∧modeO ops S q)
def modeR (ops:List LOp) (S:LS) (q:Mode):Prop:=(needP ops=true∧modeP ops S q)∨(needP ops=false∧needM ops=false∧modeS ops S q)
theorem runS_some {Γ:Fns} {q:Mode} {ops:List LOp} {S S1:LS} (hq:modeS ops S q) (h:runD Γ q ops S=some S1):runS Γ ops S=some S1:=by
 simp only [runS]
 rcases hq with ⟨hn,rfl⟩ | ⟨hn,hq⟩
 ·rw [hn]; exact h
 ·rw [hn]; exact runO_some hq h
theorem runS_ex {Γ:Fns} {ops:List LOp} {S S1:LS} (h:runS Γ ops S=some S1):∃ q,modeS ops S q∧runD Γ q ops S=some S1:=by
 simp only [runS] at h
 cases hn:needB ops with
 | true=>rw [hn] at h; exact ⟨_,.inl ⟨hn,rfl⟩,h⟩
 | false =>
  rw [hn] at h
  obtain ⟨q,h1,h2⟩:=runO_ex h
  exact ⟨q,.inr ⟨hn,h1⟩,h2⟩
theorem runR_some {Γ:Fns} {q:Mode} {ops:List LOp} {S S1:LS} (hq:modeR ops S q) (h:runD Γ q ops S=some S1):runR Γ true ops S=some S1:=by
 simp only [runR]
 rcases hq with ⟨hn,hq⟩ | ⟨hn,hm,hq⟩
 ·rw [hn]; exact runP_some hq h
 ·rw [hn,hm]; exact runS_some hq h
theorem runR_someM {Γ:Fns} {ops:List LOp} {S S1:LS} (h1:needP ops=false) (h2:needM ops=true) (h:runM Γ ops S=some S1):runR Γ true ops S=some S1:=by
 simp only [runR]
 rw [h1,h2]; exact h
theorem runR_ex {Γ:Fns} {ops:List LOp} {S S1:LS} (h:runR Γ true ops S=some S1):(∃ q,modeR ops S q∧runD Γ q ops S=some S1)∨(needP ops=false∧needM ops=true∧runM Γ ops S=some S1):=by
 simp only [runR] at h
 cases hn:needP ops with
 | true =>
  rw [hn] at h
  obtain ⟨q,h1,h2⟩:=runP_ex h
  exact .inl ⟨q,.inl ⟨hn,h1⟩,h2⟩
 | false =>
  rw [hn] at h
  cases hm:needM ops with
  | true =>
   rw [hm] at h
   exact .inr ⟨rfl,rfl,h⟩
  | false =>
   rw [hm] at h
   obtain ⟨q,h1,h2⟩:=runS_ex h
   exact .inl ⟨q,.inr ⟨hn,hm,h1⟩,h2⟩
theorem runR_mono {Γ Δ:Fns} (h:Le Γ Δ) {d:Bool} {ops:List LOp} {S S1:LS} (e:runR Γ d ops S=some S1):runR Δ d ops S=some S1:=by
 cases d with
 | false=>exact runL_mono h e
 | true =>
  rcases runR_ex e with ⟨q,hq,hr⟩ | ⟨h1,h2,hr⟩
  ·exact runR_some hq (runD_mono h hr)
  ·exact runR_someM h1 h2 (runM_mono h hr)

theorem regionL_mono {Γ Δ:Fns} (h:Le Γ Δ) {d:Bool} {ops:List LOp} {kill:List Nat} {S S1:LS} (e:regionL Γ d ops kill S=some S1):regionL Δ d ops kill S=some S1:=by
 unfold regionL at *
 cases hs:runR Γ d ops S with
 | none=>rw [hs] at e; cases e
 | some S2=>rw [hs] at e; rw [runR_mono h hs]; exact e

theorem iter_mono {f g:LS→Option (Ex×LS)} (h:∀ S r,f S=some r→g S=some r):∀ {n m:Nat},n≤m→∀ {S:LS} {r},iter n f S=some r→iter m g S=some r
 | 0,_,_,_,_,e=>by cases e
 | n+1,0,hm,_,_,_=>absurd hm (by omega)
 | n+1,m+1,hm,S,r,e=>by
  simp only [iter] at *
  cases hf:f S with
  | none=>rw [hf] at e; cases e
  | some p =>
   rw [hf] at e
   rw [h _ _ hf]
   obtain ⟨x,S1⟩:=p
   cases x with
   | normal=>exact iter_mono h (by omega) e
   | exit id=>exact e
   | ret=>exact e

theorem roundL_mono {f g:LS→Option (Ex×LS)} (h:∀ S r,f S=some r→g S=some r) {i x:Nat} {slots:List Nat} {asg:List LOp} {e:DV} {k:Nat} {S S':LS} (hr:roundL f i x slots asg e k S=some S'):roundL g i x slots asg e k S=some S':=by
 unfold roundL at *
 split at hr
 ·rename_i e1 ob1 h1
  split at hr
  ·rename_i as h2
   split at hr
   ·rename_i S1 h3
    rw [h _ _ h3]
    exact hr
   ·cases hr
  ·cases hr
 ·cases hr
theorem backL_mono {f g:DV→Nat→LS→Option LS} (h:∀ e k S S',f e k S=some S'→g e k S=some S'):∀ (l:List DV) {S S':LS},backL f l S=some S'→backL g l S=some S'
 | [],_,_,hr=>hr
 | e :: r,S,S',hr=>by
  simp only [backL] at *
  cases hf:f e r.length S with
  | none=>rw [hf] at hr; cases hr
  | some S1=>rw [hf] at hr; rw [h _ _ _ _ hf]; exact backL_mono h r hr
theorem exec_mono {Γ Δ:Fns} (h:Le Γ Δ) {n m:Nat} (hm:n≤m):∀ (c:LC) {S:LS} {r},exec Γ n c S=some r→exec Δ m c S=some r
 | .skip,_,_,e=>e
 | .ret,_,_,e=>e
 | .exit _,_,_,e=>e
 | .region d ops kill,S,r,e=>by
  simp only [exec] at *
  cases hs:regionL Γ d ops kill S with
  | none=>rw [hs] at e; cases e
  | some S2=>rw [hs] at e; rw [regionL_mono h hs]; exact e
 | .seq a b,S,r,e=>by
  simp only [exec] at *
  cases ha:exec Γ n a S with
  | none=>rw [ha] at e; cases e
  | some p =>
   rw [ha] at e
   rw [exec_mono h hm a ha]
   obtain ⟨x,S1⟩:=p
   cases x with
   | normal=>exact exec_mono h hm b e
   | exit id=>exact e
   | ret=>exact e
 | .cond c kill x y,S,r,e=>by
  simp only [exec] at *
  split at e
  ·exact exec_mono h hm x e
  ·exact exec_mono h hm y e
  ·cases e
 | .block id b,S,r,e=>by
  simp only [exec] at *
  cases ha:exec Γ n b S with
  | none=>rw [ha] at e; cases e
  | some p=>rw [ha] at e; rw [exec_mono h hm b ha]; exact e
 | .loop b,S,r,e=>by
  simp only [exec] at *
  exact iter_mono (fun S r e=>exec_mono h hm b e) hm e
 | .ghost g c,S,r,e=>by
  simp only [exec] at *
  cases hg:ghostL g S with
  | none=>rw [hg] at e; cases e
  | some S1=>rw [hg] at e; exact exec_mono h hm c e
 | .void,S,r,e=>by simp only [exec] at e; cases e
 | .cut o1 g o2 kill,S,r,e=>by
  simp only [exec] at *
  cases h1:regionL Γ false o1 [] S with
  | none=>rw [h1] at e; cases e
  | some S1 =>
   rw [h1] at e
   rw [regionL_mono h h1]
   simp only at *
   cases h2:ghostL g S1 with
   | none=>rw [h2] at e; cases e
   | some S2 =>
    rw [h2] at e
    simp only at *
    cases h3:regionL Γ false o2 kill S2 with
    | none=>rw [h3] at e; cases e
    | some S3=>rw [h3] at e; rw [regionL_mono h h3]; exact e
 | .back fs g i x slots asg b,S,r,e=>by
  simp only [exec] at *
  split at e
  ·split at e
   ·rename_i hc
    rw [if_pos hc]
    cases hb:backL (roundL (exec Γ n b) i x slots asg) _ S with
    | none=>rw [hb] at e; cases e
    | some S1 =>
     rw [hb] at e
     rw [backL_mono (fun _ _ _ _ h1=>roundL_mono (fun S r e=>exec_mono h hm b e) h1) _ hb]
     exact e
   ·cases e
  ·cases e

variable [GL]
theorem callN_le (lf:Nat→Option LF):∀ n,Le (callN lf n) (callN lf (n+1))
 | 0=>fun _ _ _ e=>by cases e
 | n+1=>fun f args r e=>by
  rw [callN] at e ⊢
  cases hF:lf f with
  | none=>rw [hF] at e; cases e
  | some F =>
   rw [hF] at e
   simp only at *
   cases hp:F.prim with
   | some g=>rw [hp] at e; exact e
   | none =>
    rw [hp] at e
    simp only at *
    split at e
    ·rename_i hl
     rw [if_pos hl]
     cases hx:exec (callN lf n) n F.body (enter 0 args ⟨gEnv F.gl,[]⟩) with
     | none=>rw [hx] at e; cases e
     | some p=>rw [hx] at e; rw [exec_mono (callN_le lf n) (Nat.le_succ n) _ hx]; exact e
    ·cases e

theorem callN_mono (lf:Nat→Option LF) {n m:Nat} (h:n≤m):Le (callN lf n) (callN lf m):=by
 induction h with
 | refl=>exact Le.refl _
 | step _ ih=>exact ih.trans (callN_le lf _)

open Classical in
/-- What a call comes to,whatever the fuel. -/
noncomputable def call (lf:Nat→Option LF):Fns:=fun f args=>if h:∃ r n,callN lf n f args=some r then some h.choose else none

theorem call_iff {lf:Nat→Option LF} {f:Nat} {args:List DV} {r}:call lf f args=some r↔∃ n,callN lf n f args=some r:=by
 unfold call
 constructor
 ·intro e
  split at e
  ·rename_i h
   injection e with e
   rw [← e]
   exact h.choose_spec
  ·cases e
 ·rintro ⟨n,hn⟩
  have h:∃ r n,callN lf n f args=some r:=⟨r,n,hn⟩
  rw [dif_pos h]
  obtain ⟨m,hm⟩:=h.choose_spec
  have h1:=callN_mono lf (Nat.le_max_left n m) _ _ _ hn
  have h2:=callN_mono lf (Nat.le_max_right n m) _ _ _ hm
  rw [h1] at h2
  exact h2.symm

theorem callN_call (lf:Nat→Option LF) (n:Nat):Le (callN lf n) (call lf):=fun _ _ _ h=>call_iff.2 ⟨n,h⟩

open Classical in
noncomputable def ex (lf:Nat→Option LF) (c:LC) (S:LS):Option (Ex×LS):=if h:∃ r n,exec (callN lf n) n c S=some r then some h.choose else none

theorem execN_mono (lf:Nat→Option LF) {n m:Nat} (h:n≤m) {c:LC} {S:LS} {r} (e:exec (callN lf n) n c S=some r):exec (callN lf m) m c S=some r:=exec_mono (callN_mono lf h) h c e

theorem ex_iff {lf:Nat→Option LF} {c:LC} {S:LS} {r}:ex lf c S=some r↔∃ n,exec (callN lf n) n c S=some r:=by
 unfold ex
 constructor
 ·intro e
  split at e
  ·rename_i h
   injection e with e
   rw [← e]
   exact h.choose_spec
  ·cases e
 ·rintro ⟨n,hn⟩
  have h:∃ r n,exec (callN lf n) n c S=some r:=⟨r,n,hn⟩
  rw [dif_pos h]
  obtain ⟨m,hm⟩:=h.choose_spec
  have h1:=execN_mono lf (Nat.le_max_left n m) hn
  have h2:=execN_mono lf (Nat.le_max_right n m) hm
  rw [h1] at h2
  exact h2.symm

theorem opt_ext {α:Type} {a b:Option α} (h:∀ r,a=some r↔b=some r):a=b:=by
 cases a with
 | none=>cases b with
  | none=>rfl
  | some y=>have:=(h y).2 rfl; cases this
 | some x=>exact ((h x).1 rfl).symm

theorem eff_lim {lf:Nat→Option LF} {fr:Nat→Bool} {k:K} {xs:List DV} {ob:OB} {r} (e:eff (call lf) fr k xs ob=some r):∃ n,eff (callN lf n) fr k xs ob=some r:=by
 have key:∀ {fr:Nat→Bool} {f id:Nat} {xs:List DV} {ob:OB},callD (call lf) fr f id xs ob=some r→∃ n,callD (callN lf n) fr f id xs ob=some r:=by
  intro fr f id xs ob e
  unfold callD at *
  split at e
  ·cases e
  ·rename_i as has
   split at e
   ·cases e
   ·rename_i r0 outs hr
    obtain ⟨n,hn⟩:=call_iff.1 hr
    exact ⟨n,by rw [hn]; exact e⟩
 cases k with
 | call f id =>
  simp only [eff_call] at *
  exact key e
 | calld id =>
  simp only [eff_calld] at *
  obtain ⟨f,cs,ys,rfl,hc,e⟩:=calldD_some e
  simp only [calldD,hc,if_true]
  exact key e
 | callg f id =>
  simp only [eff_callg] at *
  obtain ⟨ys,ob1,hg,e⟩:=callgD_some e
  simp only [callgD,hg]
  exact key e
 | callm f ms id =>
  simp only [eff_callm] at *
  exact key e
 | _=>exact ⟨0,e⟩

theorem stepL_lim {lf:Nat→Option LF} {o:LOp} {S S1:LS} (e:stepL (call lf) o S=some S1):∃ n,stepL (callN lf n) o S=some S1:=by
 cases hx:eff (call lf) (fun id=>!(id % 8 == 7) && !Env.mentions id S.sl) o.k (o.args.map S.get) S.ob with
 | none =>
  refine ⟨0,?_⟩
  unfold stepL at *
  simp only [hx] at e
  simp only
  split at e
  ·cases e
  ·split at e
   ·split at e
    ·cases e
    ·rename_i h; rw [if_neg h]; exact e
   ·exact e
   ·cases e
 | some r =>
  obtain ⟨n,hn⟩:=eff_lim hx
  refine ⟨n,?_⟩
  unfold stepL at *
  simp only [hx,hn] at *
  exact e

theorem runL_lim {lf:Nat→Option LF}:∀ {ops:List LOp} {S S1:LS},runL (call lf) ops S=some S1→∃ n,runL (callN lf n) ops S=some S1
 | [],_,_,e=>⟨0,e⟩
 | o :: os,S,S1,e=>by
  simp only [runL] at *
  cases hs:stepL (call lf) o S with
  | none=>rw [hs] at e; cases e
  | some S2 =>
   rw [hs] at e
   obtain ⟨n,hn⟩:=stepL_lim hs
   obtain ⟨m,hm⟩:=runL_lim e
   refine ⟨max n m,?_⟩
   rw [stepL_mono (callN_mono lf (Nat.le_max_left n m)) hn]
   exact runL_mono (callN_mono lf (Nat.le_max_right n m)) hm

theorem runD_lim {lf:Nat→Option LF} {q:Mode}:∀ {ops:List LOp} {S S1:LS},runD (call lf) q ops S=some S1→∃ n,runD (callN lf n) q ops S=some S1
 | [],_,_,e=>⟨0,e⟩
 | o :: os,S,S1,e=>by
  simp only [runD] at *
  split at e
  ·rename_i ho
   cases hs:stepL (call lf) o S with
   | none=>rw [hs] at e; cases e
   | some S2 =>
    rw [hs] at e
    obtain ⟨n,hn⟩:=stepL_lim hs
    obtain ⟨m,hm⟩:=runD_lim e
    refine ⟨max n m,?_⟩
    rw [if_pos ho,stepL_mono (callN_mono lf (Nat.le_max_left n m)) hn]
    exact runD_mono (callN_mono lf (Nat.le_max_right n m)) hm
  ·cases e
theorem runM_lim {lf:Nat→Option LF}:∀ {ops:List LOp} {S S1:LS},runM (call lf) ops S=some S1→∃ n,runM (callN lf n) ops S=some S1
 | [],_,_,e=>⟨0,e⟩
 | [o],_,_,e=>stepL_lim e
 | o :: p :: os,S,S1,e=>by
  simp only [runM] at *
  split at e
  ·rename_i ho
   cases hs:stepL (call lf) o S with
   | none=>rw [hs] at e; cases e
   | some S2 =>
    rw [hs] at e
    obtain ⟨n,hn⟩:=stepL_lim hs
    obtain ⟨m,hm⟩:=runM_lim e
    refine ⟨max n m,?_⟩
    rw [if_pos ho,stepL_mono (callN_mono lf (Nat.le_max_left n m)) hn]
    exact runM_mono (callN_mono lf (Nat.le_max_right n m)) hm
  ·cases e
theorem runR_lim {lf:Nat→Option LF} {d:Bool} {ops:List LOp} {S S1:LS} (e:runR (call lf) d ops S=some S1):∃ n,runR (callN lf n) d ops S=some S1:=by
 cases d with
 | false=>exact runL_lim e
 | true =>
  rcases runR_ex e with ⟨q,hq,hr⟩ | ⟨h1,h2,hr⟩
  ·obtain ⟨n,hn⟩:=runD_lim hr
   exact ⟨n,runR_some hq hn⟩
  ·obtain ⟨n,hn⟩:=runM_lim hr
   exact ⟨n,runR_someM h1 h2 hn⟩

theorem regionL_lim {lf:Nat→Option LF} {d:Bool} {ops:List LOp} {kill:List Nat} {S S1:LS} (e:regionL (call lf) d ops kill S=some S1):∃ n,regionL (callN lf n) d ops kill S=some S1:=by
 unfold regionL at *
 cases hs:runR (call lf) d ops S with
 | none=>rw [hs] at e; cases e
 | some S2 =>
  rw [hs] at e
  obtain ⟨n,hn⟩:=runR_lim hs
  exact ⟨n,by rw [hn]; exact e⟩

section
variable (lf:Nat→Option LF)
theorem ex_skip (S:LS):ex lf .skip S=some (.normal,S):=ex_iff.2 ⟨0,rfl⟩
theorem ex_ret (S:LS):ex lf .ret S=some (.ret,S):=ex_iff.2 ⟨0,rfl⟩
theorem ex_exit (id:Nat) (S:LS):ex lf (.exit id) S=some (.exit id,S):=ex_iff.2 ⟨0,rfl⟩
theorem ex_region (d:Bool) (ops:List LOp) (kill:List Nat) (S:LS):ex lf (.region d ops kill) S=match regionL (call lf) d ops kill S with | some S1=>some (.normal,S1) | none=>none:=by
 apply opt_ext
 intro r
 rw [ex_iff]
 constructor
 ·rintro ⟨n,hn⟩
  simp only [exec] at hn
  cases hs:regionL (callN lf n) d ops kill S with
  | none=>rw [hs] at hn; cases hn
  | some S2=>rw [hs] at hn; rw [regionL_mono (callN_call lf n) hs]; exact hn
 ·intro e
  cases hs:regionL (call lf) d ops kill S with
  | none=>rw [hs] at e; cases e
  | some S2 =>
   rw [hs] at e
   obtain ⟨n,hn⟩:=regionL_lim hs
   exact ⟨n,by simp only [exec,hn]; exact e⟩
theorem ex_seq (a b:LC) (S:LS):ex lf (.seq a b) S=match ex lf a S with | some (.normal,S1)=>ex lf b S1 | r=>r:=by
 apply opt_ext
 intro r
 rw [ex_iff]
 constructor
 ·rintro ⟨n,hn⟩
  simp only [exec] at hn
  cases hs:exec (callN lf n) n a S with
  | none=>rw [hs] at hn; cases hn
  | some p =>
   rw [hs] at hn
   rw [ex_iff.2 ⟨n,hs⟩]
   obtain ⟨x,S1⟩:=p
   cases x with
   | normal=>exact ex_iff.2 ⟨n,hn⟩
   | exit id=>exact hn
   | ret=>exact hn
 ·intro e
  cases hs:ex lf a S with
  | none=>rw [hs] at e; cases e
  | some p =>
   rw [hs] at e
   obtain ⟨n,hn⟩:=ex_iff.1 hs
   obtain ⟨x,S1⟩:=p
   cases x with
   | normal =>
    obtain ⟨m,hm⟩:=ex_iff.1 e
    refine ⟨max n m,?_⟩
    simp only [exec,execN_mono lf (Nat.le_max_left n m) hn]
    exact execN_mono lf (Nat.le_max_right n m) hm
   | exit id=>exact ⟨n,by simp only [exec,hn]; exact e⟩
   | ret=>exact ⟨n,by simp only [exec,hn]; exact e⟩
theorem ex_cond (c:Opd) (kill:List Nat) (x y:LC) (S:LS):ex lf (.cond c kill x y) S=match S.get c with | .b true=>ex lf x (S.drop kill) | .b false=>ex lf y (S.drop kill) | _=>none:=by
 apply opt_ext
 intro r
 rw [ex_iff]
 simp only [exec]
 cases S.get c <;> try (simp; done)
 rename_i t
 cases t <;> simp only <;> exact ex_iff.symm
theorem ex_block (id:Nat) (b:LC) (S:LS):ex lf (.block id b) S=match ex lf b S with | some (.exit j,S1)=>if j=id then some (.normal,S1) else some (.exit j,S1) | r=>r:=by
 apply opt_ext
 intro r
 rw [ex_iff]
 constructor
 ·rintro ⟨n,hn⟩
  simp only [exec] at hn
  cases hs:exec (callN lf n) n b S with
  | none=>rw [hs] at hn; cases hn
  | some p=>rw [hs] at hn; rw [ex_iff.2 ⟨n,hs⟩]; exact hn
 ·intro e
  cases hs:ex lf b S with
  | none=>rw [hs] at e; cases e
  | some p =>
   rw [hs] at e
   obtain ⟨n,hn⟩:=ex_iff.1 hs
   exact ⟨n,by simp only [exec,hn]; exact e⟩
theorem ex_loop (b:LC) (S:LS):ex lf (.loop b) S=match ex lf b S with | some (.normal,S1)=>ex lf (.loop b) S1 | r=>r:=by
 apply opt_ext
 intro r
 rw [ex_iff]
 constructor
 ·rintro ⟨n,hn⟩
  simp only [exec] at hn
  cases n with
  | zero=>cases hn
  | succ n =>
   simp only [iter] at hn
   cases hs:exec (callN lf (n+1)) (n+1) b S with
   | none=>rw [hs] at hn; cases hn
   | some p =>
    rw [hs] at hn
    rw [ex_iff.2 ⟨n+1,hs⟩]
    obtain ⟨x,S1⟩:=p
    cases x with
    | normal=>exact ex_iff.2 ⟨n+1,by simp only [exec]; exact iter_mono (fun _ _ h=>h) (Nat.le_succ n) hn⟩
    | exit id=>exact hn
    | ret=>exact hn
 ·intro e
  cases hs:ex lf b S with
  | none=>rw [hs] at e; cases e
  | some p =>
   rw [hs] at e
   obtain ⟨n,hn⟩:=ex_iff.1 hs
   obtain ⟨x,S1⟩:=p
   cases x with
   | normal =>
    obtain ⟨m,hm⟩:=ex_iff.1 e
    refine ⟨max n m+1,?_⟩
    simp only [exec] at hm ⊢
    simp only [iter,execN_mono lf (Nat.le_succ_of_le (Nat.le_max_left n m)) hn]
    exact iter_mono (fun S r h=>execN_mono lf (Nat.le_succ_of_le (Nat.le_max_right n m)) h) (Nat.le_max_right n m) hm
   | exit id=>exact ⟨n+1,by simp only [exec,iter,execN_mono lf (Nat.le_succ n) hn]; exact e⟩
   | ret=>exact ⟨n+1,by simp only [exec,iter,execN_mono lf (Nat.le_succ n) hn]; exact e⟩
theorem ex_ghost (g:Ghost) (c:LC) (S:LS):ex lf (.ghost g c) S=match ghostL g S with | some S1=>ex lf c S1 | none=>none:=by
 apply opt_ext
 intro r
 rw [ex_iff]
 simp only [exec]
 cases ghostL g S with
 | none=>simp
 | some S1=>simp only; exact ex_iff.symm
theorem ex_cut (o1:List LOp) (g:Ghost) (o2:List LOp) (kill:List Nat) (S:LS):ex lf (.cut o1 g o2 kill) S=ex lf (.seq (.region false o1 []) (.ghost g (.region false o2 kill))) S:=by
 apply opt_ext
 intro r
 rw [ex_iff,ex_iff]
 have key:∀ n,exec (callN lf n) n (.cut o1 g o2 kill) S=exec (callN lf n) n (.seq (.region false o1 []) (.ghost g (.region false o2 kill))) S:=fun n=>by
  simp only [exec]
  cases regionL (callN lf n) false o1 [] S with
  | none=>rfl
  | some S1=>rfl
 simp only [key]
theorem call_prim (f:Nat) (args:List DV) {F:LF} (hF:lf f=some F) {g:List DV→Option (DV×List DV)} (hp:F.prim=some g):call lf f args=g args:=by
 apply opt_ext
 intro r
 rw [call_iff]
 constructor
 ·rintro ⟨n,h⟩
  cases n with
  | zero=>cases h
  | succ n=>rw [callN,hF] at h; simp only [hp] at h; exact h
 ·intro e
  refine ⟨1,?_⟩
  rw [callN,hF]
  simp only [hp]
  exact e
theorem call_eq (f:Nat) (args:List DV) {F:LF} (hF:lf f=some F) (hn:args.length=F.nparams) (hp:F.prim=none) :
  call lf f args=match ex lf F.body (enter 0 args ⟨gEnv F.gl,[]⟩) with | some (.normal,S)=>leave F args S | some (.ret,S)=>leave F args S | _=>none:=by
 apply opt_ext
 intro r
 rw [call_iff]
 constructor
 ·rintro ⟨n,h⟩
  cases n with
  | zero=>cases h
  | succ n =>
   rw [callN,hF] at h
   simp only [hp,hn,if_true] at h
   cases hs:exec (callN lf n) n F.body (enter 0 args ⟨gEnv F.gl,[]⟩) with
   | none=>rw [hs] at h; cases h
   | some p=>rw [hs] at h; rw [ex_iff.2 ⟨n,hs⟩]; exact h
 ·intro e
  cases hs:ex lf F.body (enter 0 args ⟨gEnv F.gl,[]⟩) with
  | none=>rw [hs] at e; cases e
  | some p =>
   rw [hs] at e
   obtain ⟨n,hx⟩:=ex_iff.1 hs
   refine ⟨n+1,?_⟩
   rw [callN,hF]
   simp only [hp,hn,if_true,hx]
   exact e
end
end Go.Lg

namespace Go.Lg
open Go.RowKit

structure PO where
 hv:Value
 len:Nat
 ty:TypeId
 sz:Nat
abbrev OM:=Nat→Option PO

/-- Which blocks may be read,and what is known of rows that grow in their cells. -/
structure OkT where
 blk:Nat→Prop
 lnk:Nat→Nat→Value→Prop
instance:CoeFun OkT (fun _=>Nat→Prop):=⟨OkT.blk⟩
/-- Object 'j' is there,and at its length 'n' this was its head. -/
def lnkO (O:OM) (j n:Nat) (v:Value):Prop:=j % 8=5∧∃ p,O j=some p∧(n < p.len∨(p.len=n∧v=p.hv))
def okb (ok0:Nat→Prop) (B:Nat) (O:OM):OkT:=⟨fun b=>(b < B→ok0 b)∧∀ k p,O k=some p→p.hv.ownBlock≠some b,lnkO O⟩

/-- A function value: what it has taken along goes behind the arguments; what is bound,ahead of them. -/
def fnV (f:Nat) (cs:List DV) (vs:Array Value):Value:=match cs with
 | .dead :: _=>.func (.func f) #[.agg vs.toList.tail.toArray] #[]
 | _=>.func (.func f) #[] vs
theorem fnV_plain {f:Nat} {cs:List DV} (h:∀ r,cs≠.dead :: r) (vs:Array Value):fnV f cs vs=.func (.func f) #[] vs:=by
 unfold fnV
 split
 ·rename_i r; exact absurd rfl (h r)
 ·rfl
theorem fnV_bound (f:Nat) (cs:List DV) (u:Value) (us:Array Value):fnV f (.dead :: cs) ((u :: us.toList).toArray)=.func (.func f) #[.agg us] #[]:=by
 unfold fnV; simp
theorem dead_lend {e:DV} (h:e.lend=.dead):e=.dead:=by cases e <;> simp_all [DV.lend]
theorem dead_adopt {o:Bool} {e:DV} (h:e.adopt o=.dead):e=.dead:=by cases e <;> simp_all [DV.adopt]
theorem fnV_lend (f:Nat) (cs:List DV) (vs:Array Value):fnV f (lendL cs) vs=fnV f cs vs:=by
 cases cs with
 | nil=>rfl
 | cons e r =>
  by_cases h:e=.dead
  ·subst h; rfl
  ·rw [fnV_plain (by intro q hq; injection hq with h1; exact h (dead_lend h1)),fnV_plain (by intro q hq; injection hq with h1; exact h h1)]
theorem fnV_adopt (o:Bool) (f:Nat) (cs:List DV) (vs:Array Value):fnV f (adoptL o cs) vs=fnV f cs vs:=by
 cases cs with
 | nil=>rfl
 | cons e r =>
  by_cases h:e=.dead
  ·subst h; rfl
  ·rw [fnV_plain (by intro q hq; injection hq with h1; exact h (dead_adopt h1)),fnV_plain (by intro q hq; injection hq with h1; exact h h1)]
theorem fnV_one (f:Nat) (cs:List DV) (vs:Array Value):(fnV f cs vs).oneCell'=true:=by
 unfold fnV; split <;> rfl
theorem fnV_cells (f:Nat) (cs:List DV) (vs:Array Value):(fnV f cs vs).cells=#[fnV f cs vs]:=by
 unfold fnV; split <;> rfl

/-- A value that may lie in a cell,and what is said of it. -/
inductive CR (w:World) (B:Nat) (ok:OkT):DV→Value→Prop
 | i (n:Int):CR w B ok (.i n) (.int .i64 n)
 | y (n:Nat) (hn:n < 256):CR w B ok (.y n) (.int .u8 n)
 | b (x:Bool):CR w B ok (.b x) (.bool x)
 | s (l:List UInt8):CR w B ok (.s l) (.string ⟨l.toArray⟩)
 | w (x:BitVec 32):CR w B ok (.w x) (.int .u32 x.toNat)
 | q (n:Nat) (hn:n < 18446744073709551616):CR w B ok (.q n) (.int .u64 n)
 | r (n:Int):CR w B ok (.r n) (.int .i32 n)
 | sl0 (p:Nat) (A:Option Addr) (cap:Nat) (hm:cap≤maxLen):CR w B ok (.sl p []) (.slice A 0 cap)
 | sl (p:Nat) (es:List DV) (ad:Addr) (n cap sz:Nat) (xs:List Value) (hn:es.length=n) (h0:0 < n) (hc:n≤cap) (hm:cap≤maxLen)
   (hsz:∀ e∈es,e.cells.length=sz) (hok:ok ad.block) (hlt:ad.block < w.heap.size) (hold:p=0→ad.block < B) (hnew:p=1∨p=3→B≤ad.block)
   (hrow:p=1→∃ ty,w.ownsRow 0 ty sz (.slice (some ad) n cap) n xs) (hl:xs.length=(flat es).length) (hcell:∀ (j:Nat) (u:Value),xs[j]?=some u→w.cell? (ad.add j)=some u)
   (hrec:∀ (j:Nat) (c:DV) (u:Value),(flat es)[j]?=some c→xs[j]?=some u→CR w B ok c u):CR w B ok (.sl p es) (.slice (some ad) n cap)
 | nf:CR w B ok .dead .nilFunc
 | cel (j n:Nat) (A:Option Addr) (m cap:Nat) (hm:cap≤maxLen) (h:ok.lnk j n (.slice A m cap)):CR w B ok (.cel j n) (.slice A m cap)
 | wild (A:Option Addr) (m cap:Nat) (hm:cap≤maxLen):CR w B ok .wild (.slice A m cap)
 | fn (f:Nat) (cs:List DV) (vs:Array Value) (hl:vs.toList.length=cs.length) (ads:Nat→Addr) (yss:Nat→List Value)
   (hp:∀ (j:Nat) (e:DV) (u:Value),cs[j]?=some (.adr e)→vs.toList[j]?=some u→u=.pointer (some (ads j))∧ok (ads j).block∧(ads j).block < w.heap.size∧(∀ (i:Nat) (x:Value),(yss j)[i]?=some x→w.cell? ((ads j).add i)=some x)∧(yss j).length=e.cells.length)
   (hq:∀ (j:Nat) (e:DV) (i:Nat) (c:DV) (x:Value),cs[j]?=some (.adr e)→e.cells[i]?=some c→(yss j)[i]?=some x→CR w B ok c x)
   (hr:∀ (j:Nat) (c:DV) (u:Value),cs[j]?=some c→(∀ e,c≠.adr e)→vs.toList[j]?=some u→CR w B ok c u):CR w B ok (.fn f cs) (fnV f cs vs)

theorem ownsRow_keep {w w':World} {ty:TypeId} {sz:Nat} {ad:Addr} {n m cap:Nat} {xs:List Value} (h:w.ownsRow 0 ty sz (.slice (some ad) n cap) m xs) (hw:w'.heap[ad.block]?=w.heap[ad.block]?):w'.ownsRow 0 ty sz (.slice (some ad) n cap) m xs:=by
 refine ⟨h.1,?_⟩
 rcases h.2 with ⟨h0,_⟩ | ⟨g,cp,cur,hv,h1,h2,h3⟩
 ·cases h0
 ·injection hv with hv _ _
  injection hv with hv
  subst hv
  exact .inr ⟨g,cp,cur,by simp_all,h1,hw.trans h2,h3⟩

theorem CR.keep {w w':World} {B B':Nat} {ok ok':OkT} {d:DV} {v:Value} (h:CR w B ok d v)
  (hw:∀ b,ok b→b < w.heap.size→w'.heap[b]?=w.heap[b]?) (hs:w.heap.size≤w'.heap.size) (hok:∀ b,ok b→b < w.heap.size→ok' b) (hL:∀ j n u,ok.lnk j n u→ok'.lnk j n u) (hB:B=B'):CR w' B' ok' d v:=by
 subst hB
 induction h with
 | i n=>exact .i n
 | y n hn=>exact .y n hn
 | b x=>exact .b x
 | s l=>exact .s l
 | w x=>exact .w x
 | q n hn=>exact .q n hn
 | r n=>exact .r n
 | nf=>exact .nf
 | cel j n A m cap hm h=>exact .cel j n A m cap hm (hL _ _ _ h)
 | wild A m cap hm=>exact .wild A m cap hm
 | sl0 p A cap hm=>exact .sl0 p A cap hm
 | sl p es ad n cap sz xs hn h0 hc hm hsz hok1 hlt hold hnew hrow hl hcell hrec ih =>
  refine .sl p es ad n cap sz xs hn h0 hc hm hsz (hok _ hok1 hlt) (by omega) hold hnew (fun hp=>(hrow hp).imp fun ty h=>ownsRow_keep h (hw _ hok1 hlt)) hl (fun j u hu=>?_) ih
  rw [← hcell j u hu]
  refine World.cell?_of_block ?_
  have:(ad.add j).block=ad.block:=by unfold Addr.add; split <;> rfl
  rw [this]
  exact hw _ hok1 hlt
 | fn f cs vs hl ads yss hp hq hr ihq ihr =>
  refine .fn f cs vs hl ads yss (fun j e u h1 h2=>?_) ihq ihr
  obtain ⟨q1,q2,q3,q4,q5⟩:=hp j e u h1 h2
  refine ⟨q1,hok _ q2 q3,by omega,fun i x hx=>?_,q5⟩
  rw [← q4 i x hx]
  refine World.cell?_of_block ?_
  have:((ads j).add i).block=(ads j).block:=by unfold Addr.add; split <;> rfl
  rw [this]
  exact hw _ q2 q3

theorem CR.oneCell {w:World} {B:Nat} {ok:OkT} {d:DV} {v:Value} (h:CR w B ok d v):v.oneCell'=true:=by
 cases h <;> first | rfl | exact fnV_one _ _ _
theorem CR.cells {w:World} {B:Nat} {ok:OkT} {d:DV} {v:Value} (h:CR w B ok d v):d.cells=[d]∧v.cells=#[v]:=by
 cases h <;> first | exact ⟨rfl,rfl⟩ | exact ⟨rfl,fnV_cells _ _ _⟩

def view (p:PO) (lo hi:Nat) (v:Value):Prop :=
 ∃ A c,v=.slice A (hi - lo) c∧hi - lo≤c∧c≤maxLen∧(lo < hi→∃ g,p.hv.ownBlock=some g∧A=some ⟨g,lo * p.sz,none⟩)∧(lo=0→hi=p.len→v=p.hv)∧(lo=0→∃ n',p.hv=.slice A n' c)

/-- Cells and what is said of them,one by one. -/
def CRs (w:World) (B:Nat) (ok:OkT) (cs:List DV) (xs:List Value):Prop :=
 xs.length=cs.length∧∀ (j:Nat) (c:DV) (u:Value),cs[j]?=some c→xs[j]?=some u→CR w B ok c u

/-- What a function value has taken along. -/
def AR (w:World) (B:Nat) (ok:OkT) (d:DV) (v:Value):Prop :=
 CR w B ok d v∨∃ (e:DV) (ad:Addr) (xs:List Value),d=.adr e∧v=.pointer (some ad)∧ok ad.block∧ad.block < w.heap.size∧(∀ (j:Nat) (u:Value),xs[j]?=some u→w.cell? (ad.add j)=some u)∧CRs w B ok e.cells xs
def ARs (w:World) (B:Nat) (ok:OkT) (cs:List DV) (xs:List Value):Prop :=
 xs.length=cs.length∧∀ (j:Nat) (c:DV) (u:Value),cs[j]?=some c→xs[j]?=some u→AR w B ok c u

theorem CR.ofA {w:World} {B:Nat} {ok:OkT} {f:Nat} {cs:List DV} {vs:Array Value} (h:ARs w B ok cs vs.toList):CR w B ok (.fn f cs) (fnV f cs vs):=by
 have key:∀ j:Nat,∃ (ad:Addr) (ys:List Value),∀ (e:DV) (u:Value),cs[j]?=some (.adr e)→vs.toList[j]?=some u→u=.pointer (some ad)∧ok ad.block∧ad.block < w.heap.size∧(∀ (i:Nat) (x:Value),ys[i]?=some x→w.cell? (ad.add i)=some x)∧CRs w B ok e.cells ys:=by
  intro j
  by_cases hj:∃ e,cs[j]?=some (.adr e)
  ·obtain ⟨e,he⟩:=hj
   have hlt:j < vs.toList.length:=by rw [h.1]; exact (List.getElem?_eq_some_iff.1 he).1
   rcases h.2 j _ _ he (List.getElem?_eq_getElem hlt) with h1 | ⟨e',ad,xs,h1,h2,h3,h4,h5,h6⟩
   ·cases h1
   ·injection h1 with h1
    subst h1
    refine ⟨ad,xs,fun e2 u he2 hu=>?_⟩
    rw [he] at he2
    injection he2 with he2
    injection he2 with he2
    subst he2
    rw [List.getElem?_eq_getElem hlt] at hu
    injection hu with hu
    exact ⟨hu ▸ h2,h3,h4,h5,h6⟩
  ·exact ⟨default,[],fun e u he _=>absurd ⟨e,he⟩ hj⟩
 refine .fn f cs vs h.1 (fun j=>(key j).choose) (fun j=>(key j).choose_spec.choose) (fun j e u h1 h2=>?_) (fun j e i c x h1 h2 h3=>?_) (fun j c u h1 h2 h3=>?_)
 ·obtain ⟨q1,q2,q3,q4,q5⟩:=(key j).choose_spec.choose_spec e u h1 h2
  exact ⟨q1,q2,q3,q4,q5.1⟩
 ·have hlt:j < vs.toList.length:=by rw [h.1]; exact (List.getElem?_eq_some_iff.1 h1).1
  obtain ⟨_,_,_,_,q5⟩:=(key j).choose_spec.choose_spec e _ h1 (List.getElem?_eq_getElem hlt)
  exact q5.2 i c x h2 h3
 ·rcases h.2 j c u h1 h3 with h4 | ⟨e,ad,xs,h4,_⟩
  ·exact h4
  ·exact absurd h4 (h2 e)
theorem CR.toA {w:World} {B:Nat} {ok:OkT} {f:Nat} {cs:List DV} {v:Value} (h:CR w B ok (.fn f cs) v):∃ vs:Array Value,v=fnV f cs vs∧ARs w B ok cs vs.toList:=by
 cases h with
 | fn _ _ vs hl ads yss hp hq hr =>
  refine ⟨vs,rfl,hl,fun j c u h1 h2=>?_⟩
  by_cases hc:∃ e,c=.adr e
  ·obtain ⟨e,rfl⟩:=hc
   obtain ⟨q1,q2,q3,q4,q5⟩:=hp j e u h1 h2
   exact .inr ⟨e,ads j,yss j,rfl,q1,q2,q3,q4,q5,fun i c x h3 h4=>hq j e i c x h1 h3 h4⟩
  ·exact .inl (hr j c u h1 (fun e he=>hc ⟨e,he⟩) h2)

inductive VR (w:World) (B:Nat) (ok:OkT) (O:OM):DV→Value→Prop
 | cr (d:DV) (v:Value) (h:CR w B ok d v):VR w B ok O d v
 | st (cs:List DV) (vs:Array Value) (h:CRs w B ok cs vs.toList):VR w B ok O (.st cs) (.agg vs)
 | fn (f:Nat) (cs:List DV) (vs:Array Value) (h:ARs w B ok cs vs.toList):VR w B ok O (.fn f cs) (fnV f cs vs)
 | nil:VR w B ok O .nil (.slice none 0 0)
 | np:VR w B ok O .np (.pointer none)
 | und:VR w B ok O .und undef
 | dead (v:Value):VR w B ok O .dead v
 | adr (d:DV) (ad:Addr) (xs:List Value) (hok:ok ad.block) (hlt:ad.block < w.heap.size) (hcell:∀ (j:Nat) (u:Value),xs[j]?=some u→w.cell? (ad.add j)=some u)
   (h:CRs w B ok d.cells xs):VR w B ok O (.adr d) (.pointer (some ad))
 | own (k n lo hi:Nat) (p:PO) (v:Value) (hO:O k=some p) (hn:p.len=n) (h1:lo≤hi) (h2:hi≤n) (hv:view p lo hi v):VR w B ok O (.own k n lo hi) v
 | ownS (k n lo hi:Nat) (A:Option Addr) (cap:Nat) (hO:∀ p,O k=some p→n < p.len):VR w B ok O (.own k n lo hi) (.slice A (hi - lo) cap)
 | oad (k n a o:Nat) (p:PO) (g:Nat) (hO:O k=some p) (hn:p.len=n) (hg:p.hv.ownBlock=some g):VR w B ok O (.oad k n a o) (.pointer (some ⟨g,a * p.sz+o,none⟩))
 | oadS (k n a o:Nat) (ad:Addr) (hO:∀ p,O k=some p→n < p.len):VR w B ok O (.oad k n a o) (.pointer (some ad))
 | tup (ds:List DV) (vs:Array Value) (hl:vs.size=ds.length) (hnt:∀ d∈ds,∀ es,d≠.tup es) (h:∀ (j:Nat) (d:DV) (u:Value),ds[j]?=some d→vs[j]?=some u→VR w B ok O d u):VR w B ok O (.tup ds) (.tuple vs)

/-- From one memory to the next: what could be read can be read; 'N': the objects that are new. -/
structure Tr (ok0:Nat→Prop) (B:Nat) (N:Nat→Prop) (w:World) (O:OM) (w':World) (O':OM):Prop where
 size:w.heap.size≤w'.heap.size
 heap:∀ b,okb ok0 B O b→b < w.heap.size→w'.heap[b]?=w.heap[b]?
 ok:∀ b,okb ok0 B O b→b < w.heap.size→okb ok0 B O' b
 obj:∀ k p',¬ N k→O' k=some p'→O k=some p'∨∃ p,O k=some p∧p.len < p'.len
 five:∀ k p,k % 8=5→O k=some p→∃ p',O' k=some p'∧(p'=p∨p.len < p'.len)

theorem Tr.refl (ok0:Nat→Prop) (B:Nat) (N:Nat→Prop) (w:World) (O:OM):Tr ok0 B N w O w O:=⟨Nat.le_refl _,fun _ _ _=>rfl,fun _ h _=>h,fun _ _ _ h=>.inl h,fun _ p _ h=>⟨p,h,.inl rfl⟩⟩
theorem Tr.trans {ok0:Nat→Prop} {B:Nat} {N M:Nat→Prop} {w w1 w2:World} {O O1 O2:OM} (h:Tr ok0 B N w O w1 O1) (k:Tr ok0 B M w1 O1 w2 O2):Tr ok0 B (fun x=>N x∨M x) w O w2 O2:=by
 refine ⟨Nat.le_trans h.size k.size,fun b hb hlt=>(k.heap b (h.ok b hb hlt) (Nat.lt_of_lt_of_le hlt h.size)).trans (h.heap b hb hlt),fun b hb hlt=>k.ok b (h.ok b hb hlt) (Nat.lt_of_lt_of_le hlt h.size),fun x p' hN hp=>?_,fun x p h5 hp=>?_⟩
 rcases k.obj x p' (fun hm=>hN (.inr hm)) hp with h1 | ⟨p,h1,h2⟩
 ·exact h.obj x p' (fun hn=>hN (.inl hn)) h1
 ·rcases h.obj x p (fun hn=>hN (.inl hn)) h1 with h3 | ⟨q,h3,h4⟩
  ·exact .inr ⟨p,h3,h2⟩
  ·exact .inr ⟨q,h3,by omega⟩
 ·obtain ⟨p1,h1,h2⟩:=h.five x p h5 hp
  obtain ⟨p2,h3,h4⟩:=k.five x p1 h5 h1
  refine ⟨p2,h3,?_⟩
  rcases h2 with rfl | h2
  ·exact h4
  ·rcases h4 with rfl | h4
   ·exact .inr h2
   ·exact .inr (by omega)
theorem Tr.lnk {ok0:Nat→Prop} {B:Nat} {N:Nat→Prop} {w w':World} {O O':OM} (t:Tr ok0 B N w O w' O') (j n:Nat) (u:Value) (h:(okb ok0 B O).lnk j n u):(okb ok0 B O').lnk j n u:=by
 obtain ⟨h5,p,hp,hc⟩:=h
 obtain ⟨p',h1,h2⟩:=t.five j p h5 hp
 refine ⟨h5,p',h1,?_⟩
 rcases h2 with rfl | h2
 ·exact hc
 ·rcases hc with hc | ⟨hc,_⟩
  ·exact .inl (by omega)
  ·exact .inl (by omega)

theorem CR.tr {ok0:Nat→Prop} {B:Nat} {N:Nat→Prop} {w w':World} {O O':OM} {d:DV} {v:Value} (h:CR w B (okb ok0 B O) d v) (t:Tr ok0 B N w O w' O'):CR w' B (okb ok0 B O') d v :=
 h.keep t.heap t.size t.ok t.lnk rfl
theorem CRs.tr {ok0:Nat→Prop} {B:Nat} {N:Nat→Prop} {w w':World} {O O':OM} {cs:List DV} {xs:List Value} (h:CRs w B (okb ok0 B O) cs xs) (t:Tr ok0 B N w O w' O'):CRs w' B (okb ok0 B O') cs xs :=
 ⟨h.1,fun j c u h1 h2=>(h.2 j c u h1 h2).tr t⟩

theorem AR.tr {ok0:Nat→Prop} {B:Nat} {N:Nat→Prop} {w w':World} {O O':OM} {d:DV} {v:Value} (h:AR w B (okb ok0 B O) d v) (t:Tr ok0 B N w O w' O'):AR w' B (okb ok0 B O') d v:=by
 rcases h with h | ⟨e,ad,xs,rfl,rfl,hok,hlt,hcell,hc⟩
 ·exact .inl (h.tr t)
 ·refine .inr ⟨e,ad,xs,rfl,rfl,t.ok _ hok hlt,Nat.lt_of_lt_of_le hlt t.size,fun j u hu=>?_,hc.tr t⟩
  rw [← hcell j u hu]
  refine World.cell?_of_block ?_
  have:(ad.add j).block=ad.block:=by unfold Addr.add; split <;> rfl
  rw [this]
  exact t.heap _ hok hlt
theorem ARs.tr {ok0:Nat→Prop} {B:Nat} {N:Nat→Prop} {w w':World} {O O':OM} {cs:List DV} {xs:List Value} (h:ARs w B (okb ok0 B O) cs xs) (t:Tr ok0 B N w O w' O'):ARs w' B (okb ok0 B O') cs xs :=
 ⟨h.1,fun j c u h1 h2=>(h.2 j c u h1 h2).tr t⟩
theorem AR.vr {w:World} {B:Nat} {ok:OkT} {O:OM} {d:DV} {v:Value} (h:AR w B ok d v):VR w B ok O d v:=by
 rcases h with h | ⟨e,ad,xs,rfl,rfl,hok,hlt,hcell,hc⟩
 ·exact .cr _ _ h
 ·exact .adr e ad xs hok hlt hcell hc

theorem mentions_tup {id:Nat} {ds:List DV} (h:(DV.tup ds).mentions id=false) {j:Nat} {d:DV} (hd:ds[j]?=some d) (ht:∀ es,d≠.tup es):d.mentions id=false:=by
 have hm:d∈ds:=List.mem_of_getElem? hd
 simp only [DV.mentions,List.any_eq_false] at h
 have:=h d hm
 cases d <;> simp_all [DV.mentions]

theorem VR.tr {ok0:Nat→Prop} {B:Nat} {N:Nat→Prop} {w w':World} {O O':OM} {d:DV} {v:Value} (h:VR w B (okb ok0 B O) O d v) (t:Tr ok0 B N w O w' O')
  (hd:∀ id,N id→d.mentions id=false):VR w' B (okb ok0 B O') O' d v:=by
 induction h with
 | cr d v h=>exact .cr _ _ (h.tr t)
 | st cs vs h=>exact .st _ _ (h.tr t)
 | fn f cs vs h=>exact .fn _ _ _ (h.tr t)
 | nil=>exact .nil
 | np=>exact .np
 | und=>exact .und
 | dead v=>exact .dead v
 | adr d ad xs hok hlt hcell h =>
  refine .adr d ad xs (t.ok _ hok hlt) (Nat.lt_of_lt_of_le hlt t.size) (fun j u hu=>?_) (h.tr t)
  rw [← hcell j u hu]
  refine World.cell?_of_block ?_
  have:(ad.add j).block=ad.block:=by unfold Addr.add; split <;> rfl
  rw [this]
  exact t.heap _ hok hlt
 | own k n lo hi p v hO hn h1 h2 hv =>
  have hN:¬ N k:=fun hk=>by have:=hd k hk; simp [DV.mentions] at this
  cases hO':O' k with
  | none =>
   obtain ⟨A,c,rfl,_⟩:=hv
   exact .ownS k n lo hi A c (fun p' hp'=>by rw [hO'] at hp'; cases hp')
  | some p' =>
   rcases t.obj k p' hN hO' with h3 | ⟨q,h3,h4⟩
   ·rw [hO] at h3
    injection h3 with h3
    subst h3
    exact .own k n lo hi p v hO' hn h1 h2 hv
   ·rw [hO] at h3
    injection h3 with h3
    subst h3
    obtain ⟨A,c,rfl,_⟩:=hv
    exact .ownS k n lo hi A c (fun p'' hp'=>by rw [hO'] at hp'; injection hp' with hp'; subst hp'; omega)
 | ownS k n lo hi A cap hO =>
  have hN:¬ N k:=fun hk=>by have:=hd k hk; simp [DV.mentions] at this
  refine .ownS k n lo hi A cap (fun p' hp'=>?_)
  rcases t.obj k p' hN hp' with h3 | ⟨q,h3,h4⟩
  ·exact hO _ h3
  ·have:=hO _ h3; omega
 | oad k n a o p g hO hn hg =>
  have hN:¬ N k:=fun hk=>by have:=hd k hk; simp [DV.mentions] at this
  cases hO':O' k with
  | none=>exact .oadS k n a o _ (fun p' hp'=>by rw [hO'] at hp'; cases hp')
  | some p' =>
   rcases t.obj k p' hN hO' with h3 | ⟨q,h3,h4⟩
   ·rw [hO] at h3
    injection h3 with h3
    subst h3
    exact .oad k n a o p g hO' hn hg
   ·rw [hO] at h3
    injection h3 with h3
    subst h3
    exact .oadS k n a o _ (fun p'' hp'=>by rw [hO'] at hp'; injection hp' with hp'; subst hp'; omega)
 | oadS k n a o ad hO =>
  have hN:¬ N k:=fun hk=>by have:=hd k hk; simp [DV.mentions] at this
  refine .oadS k n a o ad (fun p' hp'=>?_)
  rcases t.obj k p' hN hp' with h3 | ⟨q,h3,h4⟩
  ·exact hO _ h3
  ·have:=hO _ h3; omega
 | tup ds vs hl hnt h ih =>
  exact .tup ds vs hl hnt (fun j d u h1 h2=>ih j d u h1 h2 (fun id hid=>mentions_tup (hd id hid) h1 (hnt d (List.mem_of_getElem? h1))))
end Go.Lg

namespace Go.Lg
open Go.RowKit
variable [GL]

theorem lookO_put (ob:OB) (t k:Nat) (es:List DV):lookO (putO ob t es) k=if k=t then some es else lookO ob k:=by
 induction ob with
 | nil=>simp [putO,lookO,eq_comm]
 | cons a r ih =>
  obtain ⟨j,e⟩:=a
  simp only [putO]
  split
  ·simp only [lookO]; by_cases h:t=k <;> simp [h,eq_comm]
  ·split
   ·rename_i h1 h2
    subst h2
    simp only [lookO]
    by_cases h:t=k <;> simp [h,eq_comm]
   ·simp only [lookO,ih]
    by_cases h:j=k
    ·subst h
     rename_i h1 h2
     simp [Ne.symm h2]
    ·simp [h]
theorem lookO_filter (ob:OB) (f:Nat→Bool) (k:Nat):lookO (ob.filter fun p=>f p.1) k=if f k=true then lookO ob k else none:=by
 induction ob with
 | nil=>simp [lookO]
 | cons a r ih =>
  obtain ⟨j,e⟩:=a
  by_cases hf:f j=true
  ·simp only [List.filter_cons,hf,if_true,lookO,ih]
   by_cases h:j=k
   ·subst h; simp [hf]
   ·simp [h]
  ·simp only [List.filter_cons,hf,Bool.false_eq_true,if_false,ih,lookO]
   by_cases h:j=k
   ·subst h; simp [hf]
   ·simp [h]
theorem lookO_drop (ob:OB) (t k:Nat):lookO (dropO ob t) k=if k=t then none else lookO ob k:=by
 unfold dropO
 rw [lookO_filter ob (fun j=>!(j == t)) k]
 by_cases h:k=t <;> simp [h]
theorem look_put (e:Env) (t k:Nat) (d:DV):look (put e t d) k=if k=t then d else look e k:=by
 induction e with
 | nil=>simp [put,look,eq_comm]
 | cons a r ih =>
  obtain ⟨j,x⟩:=a
  simp only [put]
  split
  ·simp only [look]; by_cases h:t=k <;> simp [h,eq_comm]
  ·split
   ·rename_i h1 h2
    subst h2
    simp only [look]
    by_cases h:t=k <;> simp [h,eq_comm]
   ·simp only [look,ih]
    by_cases h:j=k
    ·subst h
     rename_i h1 h2
     simp [Ne.symm h2]
    ·simp [h]
theorem look_kill (ks:List Nat) (e:Env) (t:Nat):look (killE ks e) t=if ks.contains t then .dead else look e t:=by
 induction e with
 | nil=>simp [killE,look]
 | cons a r ih =>
  obtain ⟨j,x⟩:=a
  unfold killE at ih ⊢
  by_cases hc:ks.contains j=true
  ·simp only [List.filter_cons,hc,Bool.not_true,Bool.false_eq_true,if_false,ih,look]
   by_cases h:j=t
   ·subst h; simp_all
   ·simp [h]
  ·simp only [List.filter_cons,hc,Bool.not_false,if_true,ih,look]
   by_cases h:j=t
   ·subst h; simp_all
   ·simp [h]

structure Cx where
 w0:World
 ok0:Nat→Prop
 refs:List (Nat×PO)
abbrev Cx.B (c:Cx):Nat:=c.w0.heap.size

/-- The tables of the package level are there,may be read,and are nobody's. -/
def GlobC [GL] (c:Cx):Prop:=∀ r∈GL.gl,r.1 < c.B∧c.ok0 r.1∧(∀ q∈c.refs,q.2.hv.ownBlock≠some r.1) ∧
 ∃ xs:List Value,(∀ (j:Nat) (u:Value),xs[j]?=some u→c.w0.cell? ((⟨r.1,0,none⟩:Addr).add j)=some u)∧∀ (w:World) (B:Nat) (ok:OkT),CRs w B ok r.2.cells xs

structure OR (w:World) (B:Nat) (ok:OkT) (p:PO) (es:List DV):Prop where
 len:p.len=es.length
 pos:0 < p.sz
 wid:∀ e∈es,e.cells.length=p.sz
 row:∃ xs,w.ownsRow 0 p.ty p.sz p.hv p.len xs∧CRs w B ok (flat es) xs

structure MR (c:Cx) (O:OM) (ob:OB) (w:World):Prop where
 os:w.os=c.w0.os
 tape:w.tape=c.w0.tape
 output:w.output=c.w0.output
 size:c.B≤w.heap.size
 frame:∀ b,b < c.B→(∀ r∈c.refs,r.2.hv.ownBlock≠some b)→w.heap[b]?=c.w0.heap[b]?
 dom:∀ k,O k=none↔lookO ob k=none
 obj:∀ k p es,O k=some p→lookO ob k=some es→OR w c.B (okb c.ok0 c.B O) p es
 inj:∀ k k' p p' g,O k=some p→O k'=some p'→p.hv.ownBlock=some g→p'.hv.ownBlock=some g→k=k'
 base:∀ k p g,O k=some p→p.hv.ownBlock=some g→c.B≤g∨(6≤k % 8∧∃ r∈c.refs,r.1 % 8=k % 8∧r.2.hv.ownBlock=some g)
 sz:∀ k p,O k=some p→p.sz=szId k
 refs:∀ r∈c.refs,r.1 % 8=7→∀ p,O r.1=some p→p=r.2
 glob:GlobC c

theorem MR.get {c:Cx} {O:OM} {ob:OB} {w:World} (h:MR c O ob w) {k:Nat} {es:List DV} (hk:lookO ob k=some es):∃ p,O k=some p∧OR w c.B (okb c.ok0 c.B O) p es:=by
 cases hO:O k with
 | none=>have:=(h.dom k).1 hO; rw [hk] at this; cases this
 | some p=>exact ⟨p,rfl,h.obj k p es hO hk⟩
theorem MR.get' {c:Cx} {O:OM} {ob:OB} {w:World} (h:MR c O ob w) {k:Nat} {p:PO} (hO:O k=some p):∃ es,lookO ob k=some es∧OR w c.B (okb c.ok0 c.B O) p es:=by
 cases hk:lookO ob k with
 | none=>have:=(h.dom k).2 hk; rw [hO] at this; cases this
 | some es=>exact ⟨es,rfl,h.obj k p es hO hk⟩
theorem MR.lt {c:Cx} {O:OM} {ob:OB} {w:World} (h:MR c O ob w) {k:Nat} {p:PO} {g:Nat} (hO:O k=some p) (hg:p.hv.ownBlock=some g):g < w.heap.size:=by
 obtain ⟨es,_,ho⟩:=h.get' hO
 obtain ⟨xs,hr,_⟩:=ho.row
 exact (hr.lt g hg).2

def upd (O:OM) (k:Nat) (x:Option PO):OM:=fun j=>if j=k then x else O j
theorem upd_same (O:OM) (k:Nat) (x:Option PO):upd O k x k=x:=by simp [upd]
theorem upd_other (O:OM) {k j:Nat} (x:Option PO) (h:j≠k):upd O k x j=O j:=by simp [upd,h]

theorem OR.tr {ok0:Nat→Prop} {B:Nat} {N:Nat→Prop} {w w':World} {O O':OM} {p:PO} {es:List DV} (h:OR w B (okb ok0 B O) p es) (t:Tr ok0 B N w O w' O')
  (hb:∀ g,p.hv.ownBlock=some g→w'.heap[g]?=w.heap[g]?):OR w' B (okb ok0 B O') p es:=by
 refine ⟨h.len,h.pos,h.wid,?_⟩
 obtain ⟨xs,hr,hc⟩:=h.row
 refine ⟨xs,⟨hr.1,?_⟩,hc.tr t⟩
 rcases hr.2 with h0 | ⟨g,cap,cur,hv,h1,h2,h3⟩
 ·exact .inl h0
 ·refine .inr ⟨g,cap,cur,hv,h1,?_,h3⟩
  rw [hb g (by rw [hv]; rfl)]
  exact h2

/-- Fewer objects. -/
theorem MR.less {c:Cx} {O:OM} {ob:OB} {w:World} (h:MR c O ob w) (f:Nat→Bool) (h5:∀ k,k % 8=5→f k=true∨O k=none) :
  MR c (fun k=>if f k=true then O k else none) (ob.filter fun p=>f p.1) w∧Tr c.ok0 c.B (fun _=>False) w O w (fun k=>if f k=true then O k else none):=by
 have ht:Tr c.ok0 c.B (fun _=>False) w O w (fun k=>if f k=true then O k else none):=by
  refine ⟨Nat.le_refl _,fun _ _ _=>rfl,fun b hb _=>⟨hb.1,fun k p hk=>?_⟩,fun k p' _ hk=>.inl ?_,fun k p hk hO=>⟨p,?_,.inl rfl⟩⟩
  ·(try dsimp only at hk)
   split at hk
   ·exact hb.2 k p hk
   ·cases hk
  ·(try dsimp only at hk)
   split at hk
   ·exact hk
   ·cases hk
  ·rcases h5 k hk with h5 | h5
   ·simp only [h5,if_true]; exact hO
   ·rw [h5] at hO; cases hO
 have hget:∀ {k:Nat} {p:PO},(if f k=true then O k else none)=some p→O k=some p:=fun hk=>by
  split at hk
  ·exact hk
  ·cases hk
 refine ⟨⟨h.os,h.tape,h.output,h.size,h.frame,fun k=>?_,fun k p es hk he=>?_,fun k k' p p' g hk hk'=>h.inj k k' p p' g (hget hk) (hget hk'),fun k p g hk=>h.base k p g (hget hk),fun k p hk=>h.sz k p (hget hk),fun r hr h7 p hk=>h.refs r hr h7 p (hget hk),h.glob⟩,ht⟩
 ·rw [lookO_filter]
  by_cases hf:f k=true
  ·simp only [hf,if_true]; exact h.dom k
  ·simp [hf]
 ·rw [lookO_filter] at he
  split at he
  ·exact (h.obj k p es (hget hk) he).tr ht (fun _ _=>rfl)
  ·cases he

theorem MR.drop {c:Cx} {O:OM} {ob:OB} {w:World} (h:MR c O ob w) (id:Nat) (h5:id % 8≠5) :
  MR c (upd O id none) (dropO ob id) w∧Tr c.ok0 c.B (fun _=>False) w O w (upd O id none):=by
 have e:(fun k=>if (!(k == id))=true then O k else none)=upd O id none:=by
  funext k
  by_cases hk:k=id <;> simp [upd,hk]
 have:=h.less (fun k=>!(k == id)) (fun k hk=>.inl (by simp; intro e; rw [e] at hk; exact h5 hk))
 rw [e] at this
 exact this

/-- A new object in a new block. -/
theorem MR.new {c:Cx} {O:OM} {ob:OB} {w:World} (h:MR c O ob w) (id:Nat) (hid:∀ r∈c.refs,r.1 % 8=7→r.1≠id) (h5:id % 8=5→O id=none) (es:List DV) (cur:Array Value) (n cap sz:Nat) (ty:TypeId) (xs:List Value)
  (hz:sz=szId id) (hn:es.length=n) (hc:n≤cap) (hm:cap≤maxLen) (hsz:0 < sz) (hw:∀ e∈es,e.cells.length=sz) (hcur:cur.size=cap * sz) (hxs:cur.toList.take (n * sz)=xs) (hx:xs.length=n * sz)
  (hcr:CRs w c.B (okb c.ok0 c.B O) (flat es) xs) :
  MR c (upd O id (some ⟨.slice (some ⟨w.heap.size,0,none⟩) n cap,n,ty,sz⟩)) (putO ob id es) (w.alloc (.cells cur ty)) ∧
  Tr c.ok0 c.B (fun k=>k=id) w O (w.alloc (.cells cur ty)) (upd O id (some ⟨.slice (some ⟨w.heap.size,0,none⟩) n cap,n,ty,sz⟩)):=by
 have hold:∀ b,b < w.heap.size→(w.alloc (.cells cur ty)).heap[b]?=w.heap[b]?:=fun b hb=>Below.heap_alloc w _ b hb
 have ht:Tr c.ok0 c.B (fun k=>k=id) w O (w.alloc (.cells cur ty)) (upd O id (some ⟨.slice (some ⟨w.heap.size,0,none⟩) n cap,n,ty,sz⟩)):=by
  refine ⟨by simp,fun b _ hb=>hold b hb,fun b hb hlt=>⟨hb.1,fun k p hk=>?_⟩,fun k p' hk hp=>.inl ?_,fun k p hk hO=>⟨p,?_,.inl rfl⟩⟩
  ·by_cases hki:k=id
   ·subst hki
    rw [upd_same] at hk
    injection hk with hk
    subst hk
    simp only [Value.ownBlock,ne_eq,Option.some.injEq]
    omega
   ·rw [upd_other O _ hki] at hk
    exact hb.2 k p hk
  ·rw [upd_other O _ hk] at hp
   exact hp
  ·rw [upd_other O _ (fun e=>by rw [e] at hk hO; rw [h5 hk] at hO; cases hO)]
   exact hO
 refine ⟨⟨h.os,h.tape,h.output,?_,fun b hb hr=>?_,fun k=>?_,fun k p es' hk he=>?_,fun k k' p p' g hk hk' hg hg'=>?_,fun k p g hk hg=>?_,fun k p hk=>?_,fun r hr h7 p hp=>?_,h.glob⟩,ht⟩
 ·simp only [World.size_alloc]; have:=h.size; omega
 ·rw [hold b (Nat.lt_of_lt_of_le hb h.size)]; exact h.frame b hb hr
 ·rw [lookO_put]
  by_cases hki:k=id
  ·simp [hki,upd]
  ·simp only [upd,hki,if_false]; exact h.dom k
 ·rw [lookO_put] at he
  by_cases hki:k=id
  ·subst hki
   rw [upd_same] at hk
   injection hk with hk
   simp only [if_true] at he
   injection he with he
   subst hk; subst he
   refine ⟨hn.symm,hsz,hw,xs,⟨hx,.inr ⟨w.heap.size,cap,cur,rfl,Nat.zero_le _,?_,hc,hm,hcur,hxs⟩⟩,hcr.tr ht⟩
   exact heap_alloc_new w _
  ·rw [upd_other O _ hki] at hk
   rw [if_neg hki] at he
   exact (h.obj k p es' hk he).tr ht (fun g hg=>hold g (h.lt hk hg))
 ·by_cases h1:k=id <;> by_cases h2:k'=id
  ·rw [h1,h2]
  ·subst h1
   rw [upd_same] at hk
   rw [upd_other O _ h2] at hk'
   injection hk with hk
   subst hk
   simp only [Value.ownBlock,Option.some.injEq] at hg
   have:=h.lt hk' hg'
   omega
  ·subst h2
   rw [upd_same] at hk'
   rw [upd_other O _ h1] at hk
   injection hk' with hk'
   subst hk'
   simp only [Value.ownBlock,Option.some.injEq] at hg'
   have:=h.lt hk hg
   omega
  ·rw [upd_other O _ h1] at hk
   rw [upd_other O _ h2] at hk'
   exact h.inj k k' p p' g hk hk' hg hg'
 ·by_cases hki:k=id
  ·subst hki
   rw [upd_same] at hk
   injection hk with hk
   subst hk
   simp only [Value.ownBlock,Option.some.injEq] at hg
   have:=h.size
   left; omega
  ·rw [upd_other O _ hki] at hk
   exact h.base k p g hk hg
 ·by_cases hki:k=id
  ·subst hki
   rw [upd_same] at hk
   injection hk with hk
   subst hk
   exact hz
  ·rw [upd_other O _ hki] at hk
   exact h.sz k p hk
 ·rw [upd_other O _ (hid r hr h7)] at hp
  exact h.refs r hr h7 p hp

/-- An owned nil slice. -/
theorem MR.newNil {c:Cx} {O:OM} {ob:OB} {w:World} (h:MR c O ob w) (id:Nat) (hid:∀ r∈c.refs,r.1 % 8=7→r.1≠id) (h5:id % 8=5→O id=none) (sz:Nat) (ty:TypeId) (hsz:0 < sz) (hz:sz=szId id) :
  MR c (upd O id (some ⟨.slice none 0 0,0,ty,sz⟩)) (putO ob id []) w∧Tr c.ok0 c.B (fun k=>k=id) w O w (upd O id (some ⟨.slice none 0 0,0,ty,sz⟩)):=by
 have ht:Tr c.ok0 c.B (fun k=>k=id) w O w (upd O id (some ⟨.slice none 0 0,0,ty,sz⟩)):=by
  refine ⟨Nat.le_refl _,fun b _ hb=>rfl,fun b hb hlt=>⟨hb.1,fun k p hk=>?_⟩,fun k p' hk hp=>.inl ?_,fun k p hk hO=>⟨p,?_,.inl rfl⟩⟩
  ·by_cases hki:k=id
   ·subst hki
    rw [upd_same] at hk
    injection hk with hk
    subst hk
    simp [Value.ownBlock]
   ·rw [upd_other O _ hki] at hk
    exact hb.2 k p hk
  ·rw [upd_other O _ hk] at hp
   exact hp
  ·rw [upd_other O _ (fun e=>by rw [e] at hk hO; rw [h5 hk] at hO; cases hO)]
   exact hO
 have hno:∀ {k:Nat} {p:PO} {g:Nat},upd O id (some ⟨.slice none 0 0,0,ty,sz⟩) k=some p→p.hv.ownBlock=some g→k≠id∧O k=some p:=by
  intro k p g hk hg
  by_cases hki:k=id
  ·subst hki
   rw [upd_same] at hk
   injection hk with hk
   subst hk
   simp [Value.ownBlock] at hg
  ·rw [upd_other O _ hki] at hk
   exact ⟨hki,hk⟩
 refine ⟨⟨h.os,h.tape,h.output,h.size,h.frame,fun k=>?_,fun k p es' hk he=>?_,fun k k' p p' g hk hk' hg hg'=>h.inj k k' p p' g (hno hk hg).2 (hno hk' hg').2 hg hg',fun k p g hk hg=>h.base k p g (hno hk hg).2 hg,fun k p hk=>?_,fun r hr h7 p hp=>?_,h.glob⟩,ht⟩
 ·rw [lookO_put]
  by_cases hki:k=id
  ·simp [hki,upd]
  ·simp only [upd,hki,if_false]; exact h.dom k
 ·rw [lookO_put] at he
  by_cases hki:k=id
  ·subst hki
   rw [upd_same] at hk
   injection hk with hk
   simp only [if_true] at he
   injection he with he
   subst hk; subst he
   exact ⟨rfl,hsz,by simp,[],⟨by simp,.inl ⟨rfl,rfl⟩⟩,by simp [flat],by simp [flat]⟩
  ·rw [upd_other O _ hki] at hk
   rw [if_neg hki] at he
   exact (h.obj k p es' hk he).tr ht (fun _ _=>rfl)
 ·by_cases hki:k=id
  ·subst hki
   rw [upd_same] at hk
   injection hk with hk
   subst hk
   exact hz
  ·rw [upd_other O _ hki] at hk
   exact h.sz k p hk
 ·rw [upd_other O _ (hid r hr h7)] at hp
  exact h.refs r hr h7 p hp

/-- An object turns: the same place,or (if it grows) perhaps another one. -/
theorem MR.turn {c:Cx} {O:OM} {ob:OB} {w w':World} (h:MR c O ob w) {k:Nat} {p p':PO} {es':List DV} (hO:O k=some p)
  (hos:w'.os=w.os) (htp:w'.tape=w.tape) (hout:w'.output=w.output) (hs:w.heap.size≤w'.heap.size)
  (hheap:∀ b,b < w.heap.size→p.hv.ownBlock≠some b→w'.heap[b]?=w.heap[b]?)
  (hblk:p'.hv.ownBlock=p.hv.ownBlock∨∃ g,p'.hv.ownBlock=some g∧w.heap.size≤g) (hnr:p'=p∨∀ r∈c.refs,r.1 % 8=7→r.1≠k)
  (hgrow:p'=p∨p.len < p'.len) (hz:p'.sz=p.sz)
  (hor:∀ ok:OkT,(∀ b,b < w.heap.size→okb c.ok0 c.B O b→ok b)→(∀ (cs:List DV) (xs:List Value),CRs w c.B (okb c.ok0 c.B O) cs xs→CRs w' c.B ok cs xs)→OR w' c.B ok p' es') :
  MR c (upd O k (some p')) (putO ob k es') w'∧Tr c.ok0 c.B (fun _=>False) w O w' (upd O k (some p')):=by
 have ht:Tr c.ok0 c.B (fun _=>False) w O w' (upd O k (some p')):=by
  refine ⟨hs,fun b hb hlt=>hheap b hlt (hb.2 k p hO),fun b hb hlt=>⟨hb.1,fun j q hj=>?_⟩,fun j q _ hj=>?_,fun j q _ hj=>?_⟩
  ·by_cases hjk:j=k
   ·subst hjk
    rw [upd_same] at hj
    injection hj with hj
    subst hj
    rcases hblk with e | ⟨g,e,hg⟩
    ·rw [e]; exact hb.2 j p hO
    ·rw [e]; simp only [ne_eq,Option.some.injEq]; omega
   ·rw [upd_other O _ hjk] at hj
    exact hb.2 j q hj
  ·by_cases hjk:j=k
   ·subst hjk
    rw [upd_same] at hj
    injection hj with hj
    subst hj
    rcases hgrow with e | e
    ·exact .inl (by rw [hO,e])
    ·exact .inr ⟨p,hO,e⟩
   ·rw [upd_other O _ hjk] at hj
    exact .inl hj
  ·by_cases hjk:j=k
   ·subst hjk
    rw [hO] at hj
    injection hj with hj
    subst hj
    exact ⟨p',upd_same _ _ _,hgrow⟩
   ·exact ⟨q,by rw [upd_other O _ hjk]; exact hj,.inl rfl⟩
 refine ⟨⟨hos.trans h.os,htp.trans h.tape,hout.trans h.output,Nat.le_trans h.size hs,fun b hb hr=>?_,fun j=>?_,fun j q es1 hj he=>?_,fun j j' q q' g hj hj' hg hg'=>?_,fun j q g hj hg=>?_,fun j q hj=>?_,fun r hr h7 q hq=>?_,h.glob⟩,ht⟩
 ·rw [hheap b (Nat.lt_of_lt_of_le hb h.size) (fun e=>?_)]
  ·exact h.frame b hb hr
  ·rcases h.base k p b hO e with h1 | ⟨_,r,h1,_,h2⟩
   ·omega
   ·exact hr r h1 h2
 ·rw [lookO_put]
  by_cases hjk:j=k
  ·simp [hjk,upd]
  ·simp only [upd,hjk,if_false]; exact h.dom j
 ·rw [lookO_put] at he
  by_cases hjk:j=k
  ·subst hjk
   rw [upd_same] at hj
   injection hj with hj
   simp only [if_true] at he
   injection he with he
   subst hj; subst he
   exact hor _ (fun b hb hok=>ht.ok b hok hb) (fun cs xs hc=>hc.tr ht)
  ·rw [upd_other O _ hjk] at hj
   rw [if_neg hjk] at he
   exact (h.obj j q es1 hj he).tr ht (fun g hg=>hheap g (h.lt hj hg) (fun e=>hjk (h.inj j k q p g hj hO hg e)))
 ·have key:∀ {j:Nat} {q:PO} {g:Nat},j≠k→upd O k (some p') j=some q→q.hv.ownBlock=some g→p'.hv.ownBlock=some g→False:=by
   intro j q g hjk hj hg hg'
   rw [upd_other O _ hjk] at hj
   rcases hblk with e | ⟨g1,e,hg1⟩
   ·rw [e] at hg'; exact hjk (h.inj j k q p g hj hO hg hg')
   ·rw [e] at hg'; injection hg' with hg'; have:=h.lt hj hg; omega
  by_cases h1:j=k <;> by_cases h2:j'=k
  ·rw [h1,h2]
  ·subst h1
   rw [upd_same] at hj
   injection hj with hj
   subst hj
   exact (key h2 hj' hg' hg).elim
  ·subst h2
   rw [upd_same] at hj'
   injection hj' with hj'
   subst hj'
   exact (key h1 hj hg hg').elim
  ·rw [upd_other O _ h1] at hj
   rw [upd_other O _ h2] at hj'
   exact h.inj j j' q q' g hj hj' hg hg'
 ·by_cases hjk:j=k
  ·subst hjk
   rw [upd_same] at hj
   injection hj with hj
   subst hj
   rcases hblk with e | ⟨g1,e,hg1⟩
   ·rw [e] at hg; exact h.base j p g hO hg
   ·rw [e] at hg; injection hg with hg; have:=h.size; left; omega
  ·rw [upd_other O _ hjk] at hj
   exact h.base j q g hj hg
 ·by_cases hjk:j=k
  ·subst hjk
   rw [upd_same] at hj
   injection hj with hj
   subst hj
   rw [hz]
   exact h.sz j p hO
  ·rw [upd_other O _ hjk] at hj
   exact h.sz j q hj
 ·by_cases hjk:r.1=k
  ·have e1:upd O k (some p') r.1=some p':=by rw [hjk,upd_same]
   rw [e1] at hq
   injection hq with hq
   subst hq
   rcases hnr with e | e
   ·rw [e]; exact h.refs r hr h7 p (by rw [hjk]; exact hO)
   ·exact absurd hjk (e r hr h7)
  ·rw [upd_other O _ hjk] at hq
   exact h.refs r hr h7 q hq
end Go.Lg

namespace Go.Lg
open Go.RowKit
variable [GL]

def cellC:Value→Option DV
 | .int .i64 n=>some (.i n)
 | .int .u8 n=>if 0≤n∧n < 256 then some (.y n.toNat) else none
 | .bool b=>some (.b b)
 | .string s=>some (.s s.data.toList)
 | .slice none 0 0=>some (.sl 1 [])
 | .int .u32 n=>if 0≤n∧n < 4294967296 then some (.w (BitVec.ofNat 32 n.toNat)) else none
 | .int .u64 n=>if 0≤n∧n < 18446744073709551616 then some (.q n.toNat) else none
 | .int .i32 n=>some (.r n)
 | .nilFunc=>some .dead
 | _=>none
def cellsC:List Value→Option (List DV)
 | []=>some []
 | v :: vs=>match cellC v with
  | some d=>match cellsC vs with
   | some ds=>some (d :: ds)
   | none=>none
  | none=>none
def dvOf:Value→Option DV
 | .agg cs=>(cellsC cs.toList).map .st
 | .slice none 0 0=>some .nil
 | .pointer none=>some .np
 | v=>cellC v

theorem cellC_ok {v:Value} {d:DV} (h:cellC v=some d) (w:World) (B:Nat) (ok:OkT):CR w B ok d v:=by
 unfold cellC at h
 split at h <;> try (cases h; done)
 ·injection h with h; subst h; exact .i _
 ·split at h
  ·injection h with h; subst h
   rename_i n hn
   obtain ⟨hn,hn2⟩:=hn
   obtain ⟨m,rfl⟩:=Int.eq_ofNat_of_zero_le hn
   exact .y m (by omega)
  ·cases h
 ·injection h with h; subst h; exact .b _
 ·injection h with h; subst h
  rename_i s
  exact .s s.data.toList
 ·injection h with h; subst h; exact .sl0 1 none 0 (Nat.zero_le _)
 ·split at h
  ·injection h with h; subst h
   rename_i n hn
   obtain ⟨hn,hn2⟩:=hn
   obtain ⟨m,rfl⟩:=Int.eq_ofNat_of_zero_le hn
   have e:(BitVec.ofNat 32 (m:Int).toNat).toNat=m:=by
    rw [BitVec.toNat_ofNat,Int.toNat_natCast]; exact Nat.mod_eq_of_lt (by omega)
   have:=CR.w (w:=w) (B:=B) (ok:=ok) (BitVec.ofNat 32 (m:Int).toNat)
   rwa [e] at this
  ·cases h
 ·split at h
  ·injection h with h; subst h
   rename_i n hn
   obtain ⟨hn,hn2⟩:=hn
   obtain ⟨m,rfl⟩:=Int.eq_ofNat_of_zero_le hn
   exact .q m (by omega)
  ·cases h
 ·injection h with h; subst h; exact .r _
 ·injection h with h; subst h; exact .nf
theorem cellsC_ok (w:World) (B:Nat) (ok:OkT):∀ {vs:List Value} {ds:List DV},cellsC vs=some ds→CRs w B ok ds vs
 | [],ds,h=>by injection h with h; subst h; exact ⟨rfl,by simp⟩
 | v :: vs,ds,h=>by
  simp only [cellsC] at h
  cases hc:cellC v with
  | none=>rw [hc] at h; cases h
  | some d =>
   rw [hc] at h
   cases hs:cellsC vs with
   | none=>rw [hs] at h; cases h
   | some es =>
    rw [hs] at h
    injection h with h
    subst h
    obtain ⟨h1,h2⟩:=cellsC_ok w B ok hs
    refine ⟨by simp [h1],fun j c u hc' hu=>?_⟩
    cases j with
    | zero=>simp at hc' hu; subst hc'; subst hu; exact cellC_ok hc w B ok
    | succ j=>simp at hc' hu; exact h2 j c u hc' hu
theorem dvOf_ok {v:Value} {d:DV} (h:dvOf v=some d) (w:World) (B:Nat) (ok:OkT) (O:OM):VR w B ok O d v:=by
 unfold dvOf at h
 split at h
 ·rename_i cs
  cases hs:cellsC cs.toList with
  | none=>rw [hs] at h; cases h
  | some ds=>rw [hs] at h; injection h with h; subst h; exact .st _ _ (cellsC_ok w B ok hs)
 ·injection h with h; subst h; exact .nil
 ·injection h with h; subst h; exact .np
 ·exact .cr _ _ (cellC_ok h w B ok)

/-- Slots from 1048576 on are the addresses of the package level's variables. -/
def viewOpd:Operand→Option Opd
 | .tmp t=>if t < 1048576 then some (.t t) else none
 | .const v=>(dvOf v).map .c
 | .global g=>some (.t (gslot g))
 | .func f=>some (.c (.fn f []))
def viewOpds:List Operand→Option (List Opd)
 | []=>some []
 | x :: xs=>match viewOpd x with
  | some y=>match viewOpds xs with
   | some ys=>some (y :: ys)
   | none=>none
  | none=>none

/-- The slots,said. -/
def tval (a:Act) (t:Nat):Value:=if t < 1048576 then a.tmps.getD t undef else .pointer (some ⟨t - 1048576,0,none⟩)
theorem tval_lt (a:Act) {t:Nat} (h:t < 1048576):tval a t=a.tmps.getD t undef:=by unfold tval; rw [if_pos h]
def SR (w:World) (B:Nat) (ok:OkT) (O:OM) (e:Env) (a:Act):Prop:=∀ t,VR w B ok O (look e t) (tval a t)

theorem viewOpd_ok {w:World} {B:Nat} {ok:OkT} {O:OM} {S:LS} {a:Act} (hs:SR w B ok O S.sl a) {x:Operand} {y:Opd} (h:viewOpd x=some y):VR w B ok O (S.get y) (a.eval x):=by
 cases x with
 | tmp t =>
  simp only [viewOpd] at h
  split at h
  ·rename_i ht
   injection h with h; subst h
   have:=hs t
   rwa [tval_lt a ht] at this
  ·cases h
 | const v =>
  simp only [viewOpd,Option.map_eq_some_iff] at h
  obtain ⟨d,hd,rfl⟩:=h
  exact dvOf_ok hd w B ok O
 | global g =>
  simp only [viewOpd,Option.some.injEq] at h
  subst h
  have:=hs (gslot g)
  unfold tval at this
  rw [if_neg (by unfold gslot; omega),show gslot g - 1048576=g by unfold gslot; omega] at this
  exact this
 | func f=>simp only [viewOpd,Option.some.injEq] at h; subst h; exact .fn f [] #[] ⟨rfl,by simp⟩

def szOf (P:Program) (t:TypeId):Option Nat:=(P.info? t).map (·.size)
def aggOf (P:Program) (t:TypeId):Option Bool :=
 match P.underlying t with
 | some (.struct _) | some (.array ..)=>some true
 | some _=>some false
 | none=>none
/-- An element's type: its cells,and what they hold at first. -/
def elemInfo (P:Program) (e:TypeId):Option (Nat×List DV) :=
 match P.info? e with
 | some i=>match i.zero with
  | some z=>if i.bytes≤65536∧z.cells.size=i.size∧0 < i.size∧i.size < 64 then (cellsC z.cells.toList).map (i.size,·) else none
  | none=>none
 | none=>none
def elemT (P:Program) (t:TypeId):Option TypeId :=
 match P.underlying t with
 | some (.slice e)=>some e
 | _=>none
def zeroD (P:Program) (e:TypeId):Option (Nat×DV) :=
 match elemInfo P e,aggOf P e with
 | some (n,cs),some true=>some (n,.st cs)
 | some (n,[c]),some false=>some (n,c)
 | _,_=>none
def fieldOf (P:Program) (t:TypeId) (f:Nat):Option (Nat×Nat×Bool) :=
 match P.underlying t with
 | some (.struct fs)=>match fs[f]? with
  | some x=>match szOf P x.type,aggOf P x.type with
   | some n,some g=>if 0 < n then some (x.offset,n,g) else none
   | _,_=>none
  | none=>none
 | _=>none
section
variable {P:Program} {w:World}
theorem run_loadCells_list (a:Addr):∀ (xs:List Value) (i:Nat) (acc:Array Value),(∀ (j:Nat) (u:Value),xs[j]?=some u→w.cell? (a.add (i+j))=some u) →
  (loadCellsFrom a i xs.length acc).run P w=.ok (acc++xs.toArray) w
 | [],i,acc,_=>by simp [loadCellsFrom]
 | x :: xs,i,acc,h=>by
  have h0:=h 0 x rfl
  simp only [Nat.add_zero] at h0
  have ih:=run_loadCells_list a xs (i+1) (acc.push x) (fun j u hu=>by
   have:=h (j+1) u (by simpa using hu)
   rwa [show i+1+j=i+(j+1) by omega])
  simp only [List.length_cons,loadCellsFrom,Sem.run_bind,run_load,h0,Result.andThen_ok]
  rw [ih]
  simp
theorem run_load_agg (t:TypeId) (n:Nat) (hg:aggOf P t=some true) (hn:szOf P t=some n) (a:Addr) (xs:List Value) (hx:xs.length=n) (h:∀ (j:Nat) (u:Value),xs[j]?=some u→w.cell? (a.add j)=some u) :
  (Instr.loadAt t (.pointer (some a))).run P w=.ok (.agg xs.toArray) w:=by
 have hl:=run_loadCells_list (P:=P) (w:=w) a xs 0 #[] (by simpa using h)
 unfold aggOf at hg
 simp only [szOf,Option.map_eq_some_iff] at hn
 obtain ⟨i,hi,rfl⟩:=hn
 have hagg:(isAgg t).run P w=.ok true w:=by
  unfold isAgg
  split at hg
  ·rename_i fs hu; simp [run_underlying hu]
  ·rename_i k e hu; simp [run_underlying hu]
  ·simp at hg
  ·cases hg
 simp only [Instr.loadAt,Instr.sureAddr,Sem.run_bind,Sem.run_pure,Result.andThen_ok,loadVar,hagg,if_true,sizeOf,typeInfo,run_program,hi,loadCells]
 rw [← hx,hl]
 simp
theorem run_load_one (t:TypeId) (hg:aggOf P t=some false) (a:Addr) (u:Value) (h:w.cell? a=some u) :
  (Instr.loadAt t (.pointer (some a))).run P w=.ok u w:=by
 unfold aggOf at hg
 have hagg:(isAgg t).run P w=.ok false w:=by
  unfold isAgg
  split at hg
  ·simp at hg
  ·simp at hg
  ·rename_i d h1 h2 hu
   simp only [run_underlying hu,Sem.run_bind,Result.andThen_ok]; rfl
  ·cases hg
 simp [Instr.loadAt,Instr.sureAddr,loadVar,hagg,h]
end
end Go.Lg

namespace Go.Lg
set_option linter.unusedSimpArgs false
set_option linter.unusedVariables false
open Go.RowKit
variable [GL]

/-- What an operation's run must come to. -/
def Out (P:Program) (c:Cx) (fr:Nat→Bool) (w:World) (O:OM) (run:Result Next) (d:DV) (ob:OB):Prop :=
 ∃ v w' O',(run=.ok (.value v) w'∨(run=.ok .skip w'∧v=undef))∧MR c O' ob w'∧VR w' c.B (okb c.ok0 c.B O') O' d v∧Tr c.ok0 c.B (fun id=>fr id=true) w O w' O'

theorem Tr.mono {ok0:Nat→Prop} {B:Nat} {N M:Nat→Prop} {w w':World} {O O':OM} (h:Tr ok0 B N w O w' O') (hn:∀ id,N id→M id):Tr ok0 B M w O w' O' :=
 ⟨h.size,h.heap,h.ok,fun k p' hk hp=>h.obj k p' (fun hN=>hk (hn k hN)) hp,h.five⟩

section
variable {P:Program} {c:Cx} {fr:Nat→Bool} {w:World} {O:OM} {ob:OB} {o:Oper} {ρ:Operand→Value}

theorem Out.same (hm:MR c O ob w) {d:DV} {v:Value} {run:Result Next} (hr:run=.ok (.value v) w) (hv:VR w c.B (okb c.ok0 c.B O) O d v):Out P c fr w O run d ob :=
 ⟨v,w,O,.inl hr,hm,hv,Tr.refl _ _ _ _ _⟩

theorem out_mv (hm:MR c O ob w) {x:Operand} (ho:o.op=.move x∨o.op=.assign x) {d:DV} (hv:VR w c.B (okb c.ok0 c.B O) O d (ρ x)):Out P c fr w O ((execOp ρ o).run P w) d ob:=by
 refine Out.same hm ?_ hv
 rcases ho with h | h <;> simp [execOp,h]

theorem VR.bool {b:Bool} {v:Value} (h:VR w c.B (okb c.ok0 c.B O) O (.b b) v):v=.bool b:=by
 cases h with | cr _ _ h=>cases h; rfl
theorem VR.int {n:Int} {v:Value} (h:VR w c.B (okb c.ok0 c.B O) O (.i n) v):v=.int .i64 n:=by
 cases h with | cr _ _ h=>cases h; rfl
theorem VR.byte {n:Nat} {v:Value} (h:VR w c.B (okb c.ok0 c.B O) O (.y n) v):v=.int .u8 n:=by
 cases h with | cr _ _ h=>cases h; rfl
theorem VR.str {l:List UInt8} {v:Value} (h:VR w c.B (okb c.ok0 c.B O) O (.s l) v):v=.string ⟨l.toArray⟩:=by
 cases h with | cr _ _ h=>cases h; rfl
theorem VR.st' {cs:List DV} {v:Value} (h:VR w c.B (okb c.ok0 c.B O) O (.st cs) v):∃ vs:Array Value,v=.agg vs∧CRs w c.B (okb c.ok0 c.B O) cs vs.toList:=by
 cases h with
 | cr _ _ h=>cases h
 | st _ vs h=>exact ⟨vs,rfl,h⟩
theorem VR.mkI (n:Int):VR w c.B (okb c.ok0 c.B O) O (.i n) (.int .i64 n):=.cr _ _ (.i n)
theorem VR.mkB (b:Bool):VR w c.B (okb c.ok0 c.B O) O (.b b) (.bool b):=.cr _ _ (.b b)
theorem VR.mkY (n:Nat) (hn:n < 256):VR w c.B (okb c.ok0 c.B O) O (.y n) (.int .u8 n):=.cr _ _ (.y n hn)
theorem wr8_lt (n:Int):wr8 n < 256:=by unfold wr8; omega
theorem VR.byte_lt {n:Nat} {v:Value} (h:VR w c.B (okb c.ok0 c.B O) O (.y n) v):n < 256:=by
 cases h with | cr _ _ h=>cases h; assumption
theorem VR.mkS (l:List UInt8):VR w c.B (okb c.ok0 c.B O) O (.s l) (.string ⟨l.toArray⟩):=.cr _ _ (.s l)

theorem VR.word {x:BitVec 32} {v:Value} (h:VR w c.B (okb c.ok0 c.B O) O (.w x) v):v=.int .u32 x.toNat:=by
 cases h with | cr _ _ h=>cases h; rfl
theorem VR.quad {n:Nat} {v:Value} (h:VR w c.B (okb c.ok0 c.B O) O (.q n) v):v=.int .u64 n∧n < 18446744073709551616:=by
 cases h with | cr _ _ h=>cases h with | q _ hn=>exact ⟨rfl,hn⟩
theorem VR.rune {n:Int} {v:Value} (h:VR w c.B (okb c.ok0 c.B O) O (.r n) v):v=.int .i32 n:=by
 cases h with | cr _ _ h=>cases h; rfl
theorem VR.mkW (x:BitVec 32):VR w c.B (okb c.ok0 c.B O) O (.w x) (.int .u32 x.toNat):=.cr _ _ (.w x)
theorem VR.fn' {f:Nat} {cs:List DV} {v:Value} (h:VR w c.B (okb c.ok0 c.B O) O (.fn f cs) v):∃ vs:Array Value,v=fnV f cs vs∧ARs w c.B (okb c.ok0 c.B O) cs vs.toList:=by
 cases h with
 | cr _ _ h=>exact h.toA
 | fn _ _ vs h=>exact ⟨vs,rfl,h⟩

theorem out_pick (hm:MR c O ob w) {x y z:Operand} (ho:o.op=.pick x y z) {b:Bool} {dy dz:DV} (hx:VR w c.B (okb c.ok0 c.B O) O (.b b) (ρ x))
  (hy:VR w c.B (okb c.ok0 c.B O) O dy (ρ y)) (hz:VR w c.B (okb c.ok0 c.B O) O dz (ρ z)):Out P c fr w O ((execOp ρ o).run P w) (if b then dy else dz) ob:=by
 refine Out.same hm (v:=if b then ρ y else ρ z) ?_ ?_
 ·simp [execOp,ho,hx.bool,asBool]
 ·cases b
  ·exact hz
  ·exact hy

theorem run_eqGuard_plain (op:BinOp) (t:TypeId) (x y:Operand) (a b:Value) (h:∀ cs ds,¬ (a=.agg cs∧b=.agg ds)) (hn:a≠.nilIface):(eqGuard op t x y a b).run P w=.ok () w:=by
 unfold eqGuard
 cases op <;> first
  | rfl
  | (cases a <;> first
    | rfl
    | exact absurd rfl hn
    | (cases b <;> first | rfl | exact absurd ⟨rfl,rfl⟩ (h _ _)))

theorem bits_i64 (a b:Int) (op:BinOp) (f:BitVec 64→BitVec 64→BitVec 64)
  (h:(op=.and∧f=fun x y=>x &&& y)∨(op=.or∧f=fun x y=>x ||| y)∨(op=.xor∧f=fun x y=>x ^^^ y)∨(op=.andNot∧f=fun x y=>x &&& ~~~y)) :
  (Op.intBits op .i64 a b).run P w=.ok (.int .i64 (wr (f (BitVec.ofInt 64 a) (BitVec.ofInt 64 b)).toNat)) w:=by
 rcases h with ⟨rfl,rfl⟩ | ⟨rfl,rfl⟩ | ⟨rfl,rfl⟩ | ⟨rfl,rfl⟩ <;> rfl

theorem run_bin_int (op:BinOp) (t:TypeId) (a b:Int) {d:DV} (h:binI op a b=some d) :
  ∃ v,(binOp op t (.int .i64 a) (.int .i64 b)).run P w=.ok v w∧VR w c.B (okb c.ok0 c.B O) O d v:=by
 cases op <;> simp only [binI] at h
 case add=>injection h with h; subst h; exact ⟨_,rfl,.mkI _⟩
 case sub=>injection h with h; subst h; exact ⟨_,rfl,.mkI _⟩
 case mul=>injection h with h; subst h; exact ⟨_,rfl,.mkI _⟩
 case quo =>
  split at h
  ·cases h
  ·rename_i hb
   injection h with h; subst h
   exact ⟨.int .i64 (wr (a.tdiv b)),by simp [binOp,Op.intDiv,hb,wr],.mkI _⟩
 case rem =>
  split at h
  ·cases h
  ·rename_i hb
   injection h with h; subst h
   exact ⟨.int .i64 (a.tmod b),by simp [binOp,Op.intDiv,hb],.mkI _⟩
 case and=>injection h with h; subst h; exact ⟨_,bits_i64 a b .and _ (.inl ⟨rfl,rfl⟩),.mkI _⟩
 case or=>injection h with h; subst h; exact ⟨_,bits_i64 a b .or _ (.inr (.inl ⟨rfl,rfl⟩)),.mkI _⟩
 case xor=>injection h with h; subst h; exact ⟨_,bits_i64 a b .xor _ (.inr (.inr (.inl ⟨rfl,rfl⟩))),.mkI _⟩
 case andNot=>injection h with h; subst h; exact ⟨_,bits_i64 a b .andNot _ (.inr (.inr (.inr ⟨rfl,rfl⟩))),.mkI _⟩
 case shl =>
  split at h
  ·cases h
  ·rename_i hb
   injection h with h; subst h
   exact ⟨_,by simp only [binOp,Op.shift,hb,if_false]; rfl,.mkI _⟩
 case shr =>
  split at h
  ·cases h
  ·rename_i hb
   injection h with h; subst h
   exact ⟨_,by simp only [binOp,Op.shift,hb,if_false]; rfl,.mkI _⟩
 case eql=>injection h with h; subst h; exact ⟨_,rfl,.mkB _⟩
 case neq=>injection h with h; subst h; exact ⟨_,rfl,.mkB _⟩
 case lss=>injection h with h; subst h; exact ⟨_,rfl,.mkB _⟩
 case leq=>injection h with h; subst h; exact ⟨_,rfl,.mkB _⟩
 case gtr=>injection h with h; subst h; exact ⟨_,rfl,.mkB _⟩
 case geq=>injection h with h; subst h; exact ⟨_,rfl,.mkB _⟩

theorem run_bin_byte (op:BinOp) (t:TypeId) (a b:Nat) {d:DV} (h:binY op a b=some d) :
  ∃ v,(binOp op t (.int .u8 a) (.int .u8 b)).run P w=.ok v w∧VR w c.B (okb c.ok0 c.B O) O d v:=by
 have hw:∀ z:Int,IntKind.u8.wrap z=((wr8 z:Nat):Int):=fun z=>by
  unfold wr8
  have:IntKind.u8.wrap z=z % 256:=by
   simp [IntKind.wrap,IntKind.signed,IntKind.bits]
  rw [this]; omega
 cases op <;> simp only [binY] at h <;> try (cases h; done)
 case add=>injection h with h; subst h; exact ⟨_,rfl,by rw [hw]; exact .mkY _ (wr8_lt _)⟩
 case sub=>injection h with h; subst h; exact ⟨_,rfl,by rw [hw]; exact .mkY _ (wr8_lt _)⟩
 case eql=>injection h with h; subst h; exact ⟨.bool ((a:Int) == b),rfl,by rw [show ((a:Int) == (b:Int))=(a == b) by rw [Bool.eq_iff_iff,beq_iff_eq,beq_iff_eq]; omega]; exact .mkB _⟩
 case neq=>injection h with h; subst h; exact ⟨.bool ((a:Int) != b),rfl,by rw [show ((a:Int) != (b:Int))=(a != b) by rw [Bool.eq_iff_iff,bne_iff_ne,bne_iff_ne]; omega]; exact .mkB _⟩
 case lss=>injection h with h; subst h; exact ⟨.bool (decide ((a:Int) < b)),rfl,by rw [show decide ((a:Int) < (b:Int))=decide (a < b) by simp]; exact .mkB _⟩
 case leq=>injection h with h; subst h; exact ⟨.bool (decide ((a:Int)≤b)),rfl,by rw [show decide ((a:Int)≤(b:Int))=decide (a≤b) by simp]; exact .mkB _⟩
 case gtr=>injection h with h; subst h; exact ⟨.bool (decide ((a:Int) > b)),rfl,by rw [show decide ((a:Int) > (b:Int))=decide (a > b) by simp]; exact .mkB _⟩
 case geq=>injection h with h; subst h; exact ⟨.bool (decide ((a:Int)≥b)),rfl,by rw [show decide ((a:Int)≥(b:Int))=decide (a≥b) by simp]; exact .mkB _⟩

theorem wrapW (x:BitVec 32):IntKind.u32.wrap (x.toNat:Int)=x.toNat:=by
 have:=x.isLt
 simp [IntKind.wrap,IntKind.signed,IntKind.bits]
 omega
theorem ofIntW (x:BitVec 32):BitVec.ofInt 32 (x.toNat:Int)=x:=by
 rw [BitVec.ofInt_natCast,BitVec.ofNat_toNat,BitVec.setWidth_eq]
theorem bits_u32 (a b:BitVec 32) (op:BinOp) (f:BitVec 32→BitVec 32→BitVec 32)
  (h:(op=.and∧f=fun x y=>x &&& y)∨(op=.or∧f=fun x y=>x ||| y)∨(op=.xor∧f=fun x y=>x ^^^ y)∨(op=.andNot∧f=fun x y=>x &&& ~~~y)) :
  (Op.intBits op .u32 a.toNat b.toNat).run P w=.ok (.int .u32 (f a b).toNat) w:=by
 have e:(Op.intBits op .u32 a.toNat b.toNat).run P w=.ok (.int .u32 (IntKind.u32.wrap (f (BitVec.ofInt 32 a.toNat) (BitVec.ofInt 32 b.toNat)).toNat)) w:=by
  rcases h with ⟨rfl,rfl⟩ | ⟨rfl,rfl⟩ | ⟨rfl,rfl⟩ | ⟨rfl,rfl⟩ <;> rfl
 rw [e,ofIntW,ofIntW,wrapW]
theorem eqW (a b:BitVec 32):((a.toNat:Int) == (b.toNat:Int))=(a == b):=by
 rw [Bool.eq_iff_iff,beq_iff_eq,beq_iff_eq,← BitVec.toNat_inj]; omega
theorem run_bin_word (op:BinOp) (t:TypeId) (a b:BitVec 32) {d:DV} (h:binW op a b=some d) :
  ∃ v,(binOp op t (.int .u32 a.toNat) (.int .u32 b.toNat)).run P w=.ok v w∧VR w c.B (okb c.ok0 c.B O) O d v:=by
 cases op <;> simp only [binW] at h <;> try (cases h; done)
 case and=>injection h with h; subst h; exact ⟨_,bits_u32 a b .and _ (.inl ⟨rfl,rfl⟩),.mkW _⟩
 case or=>injection h with h; subst h; exact ⟨_,bits_u32 a b .or _ (.inr (.inl ⟨rfl,rfl⟩)),.mkW _⟩
 case xor=>injection h with h; subst h; exact ⟨_,bits_u32 a b .xor _ (.inr (.inr (.inl ⟨rfl,rfl⟩))),.mkW _⟩
 case andNot=>injection h with h; subst h; exact ⟨_,bits_u32 a b .andNot _ (.inr (.inr (.inr ⟨rfl,rfl⟩))),.mkW _⟩
 case eql=>injection h with h; subst h; exact ⟨.bool ((a.toNat:Int) == (b.toNat:Int)),rfl,by rw [eqW]; exact .mkB _⟩
 case neq=>injection h with h; subst h; exact ⟨.bool (!((a.toNat:Int) == (b.toNat:Int))),rfl,by rw [eqW]; exact .mkB _⟩
theorem run_shift_word (op:BinOp) (t:TypeId) (a:BitVec 32) (n:Int) (k:IntKind) {d:DV} (h:shiftW op a n=some d) :
  ∃ v,(binOp op t (.int .u32 a.toNat) (.int k n)).run P w=.ok v w∧VR w c.B (okb c.ok0 c.B O) O d v:=by
 have ha:=a.isLt
 cases op <;> simp only [shiftW] at h <;> try (cases h; done)
 case shl =>
  split at h
  ·cases h
  ·rename_i hb
   injection h with h; subst h
   refine ⟨_,by simp only [binOp,Op.shift,hb,if_false]; rfl,?_⟩
   have e:IntKind.u32.wrap ((a.toNat:Int) * 2 ^ (min n.toNat 32))=((shlW a (min n.toNat 32)).toNat:Int):=by
    unfold shlW
    rw [BitVec.toNat_shiftLeft,Nat.shiftLeft_eq]
    simp [IntKind.wrap,IntKind.signed,IntKind.bits]
   show VR w c.B (okb c.ok0 c.B O) O _ (.int .u32 (IntKind.u32.wrap ((a.toNat:Int) * 2 ^ (min n.toNat 32))))
   rw [e]; exact .mkW _
 case shr =>
  split at h
  ·cases h
  ·rename_i hb
   injection h with h; subst h
   refine ⟨_,by simp only [binOp,Op.shift,hb,if_false]; rfl,?_⟩
   have e:(a.toNat:Int).fdiv (2 ^ (min n.toNat 32))=((shrW a (min n.toNat 32)).toNat:Int):=by
    unfold shrW
    rw [BitVec.toNat_ushiftRight,Nat.shiftRight_eq_div_pow,Int.fdiv_eq_ediv_of_nonneg _ (Int.le_of_lt (Int.pow_pos (by omega)))]
    rw [Int.natCast_ediv]
    congr 1
   show VR w c.B (okb c.ok0 c.B O) O _ (.int .u32 ((a.toNat:Int).fdiv (2 ^ (min n.toNat 32))))
   rw [e]; exact .mkW _
theorem run_shift_quad (op:BinOp) (t:TypeId) (a:Nat) (n:Int) (k:IntKind) {d:DV} (h:shiftQ op a n=some d) (ha:a < 18446744073709551616) :
  ∃ v,(binOp op t (.int .u64 a) (.int k n)).run P w=.ok v w∧VR w c.B (okb c.ok0 c.B O) O d v:=by
 cases op <;> simp only [shiftQ] at h <;> try (cases h; done)
 case shl =>
  split at h
  ·cases h
  ·rename_i hb
   injection h with h; subst h
   refine ⟨_,by simp only [binOp,Op.shift,hb,if_false]; rfl,?_⟩
   have e:IntKind.u64.wrap ((a:Int) * 2 ^ (min n.toNat 64))=(((a * 2 ^ (min n.toNat 64)) % 18446744073709551616:Nat):Int):=by
    simp [IntKind.wrap,IntKind.signed,IntKind.bits]
   show VR w c.B (okb c.ok0 c.B O) O _ (.int .u64 (IntKind.u64.wrap ((a:Int) * 2 ^ (min n.toNat 64))))
   rw [e]; exact .cr _ _ (.q _ (Nat.mod_lt _ (by omega)))
 case shr =>
  split at h
  ·cases h
  ·rename_i hb
   injection h with h; subst h
   refine ⟨_,by simp only [binOp,Op.shift,hb,if_false]; rfl,?_⟩
   have e:(a:Int).fdiv (2 ^ (min n.toNat 64))=((a / 2 ^ (min n.toNat 64):Nat):Int):=by
    rw [Int.fdiv_eq_ediv_of_nonneg _ (Int.le_of_lt (Int.pow_pos (by omega)))]
    rw [Int.natCast_ediv]
    congr 1
   show VR w c.B (okb c.ok0 c.B O) O _ (.int .u64 ((a:Int).fdiv (2 ^ (min n.toNat 64))))
   rw [e]; exact .cr _ _ (.q _ (Nat.lt_of_le_of_lt (Nat.div_le_self _ _) ha))

theorem wrapQ (x:BitVec 64):IntKind.u64.wrap (x.toNat:Int)=x.toNat:=by
 have:=x.isLt
 simp [IntKind.wrap,IntKind.signed,IntKind.bits]
 omega
theorem run_bin_quad (op:BinOp) (t:TypeId) (a b:Nat) {d:DV} (h:binQ op a b=some d) (ha:a < 18446744073709551616) :
  ∃ v,(binOp op t (.int .u64 a) (.int .u64 b)).run P w=.ok v w∧VR w c.B (okb c.ok0 c.B O) O d v:=by
 cases op <;> simp only [binQ] at h <;> try (cases h; done)
 case and =>
  injection h with h; subst h
  have e:(Op.intBits .and .u64 a b).run P w=.ok (.int .u64 (IntKind.u64.wrap (BitVec.ofInt 64 (a:Int) &&& BitVec.ofInt 64 (b:Int)).toNat)) w:=rfl
  rw [BitVec.ofInt_natCast,BitVec.ofInt_natCast,wrapQ] at e
  exact ⟨_,e,.cr _ _ (.q _ (BitVec.isLt _))⟩
 case add =>
  injection h with h; subst h
  refine ⟨_,rfl,?_⟩
  have e:IntKind.u64.wrap ((a:Int)+b)=(((a+b) % 18446744073709551616:Nat):Int):=by
   simp [IntKind.wrap,IntKind.signed,IntKind.bits]
  show VR w c.B (okb c.ok0 c.B O) O _ (.int .u64 (IntKind.u64.wrap ((a:Int)+b)))
  rw [e]; exact .cr _ _ (.q _ (Nat.mod_lt _ (by omega)))
 case mul =>
  injection h with h; subst h
  refine ⟨_,rfl,?_⟩
  have e:IntKind.u64.wrap ((a:Int) * b)=(((a * b) % 18446744073709551616:Nat):Int):=by
   simp [IntKind.wrap,IntKind.signed,IntKind.bits]
  show VR w c.B (okb c.ok0 c.B O) O _ (.int .u64 (IntKind.u64.wrap ((a:Int) * b)))
  rw [e]; exact .cr _ _ (.q _ (Nat.mod_lt _ (by omega)))
 case eql=>injection h with h; subst h; exact ⟨.bool ((a:Int) == b),rfl,by rw [show ((a:Int) == (b:Int))=(a == b) by rw [Bool.eq_iff_iff,beq_iff_eq,beq_iff_eq]; omega]; exact .mkB _⟩
 case shr=>exact run_shift_quad .shr t a b .u64 h ha

theorem toList_mk (l:List UInt8):(⟨l.toArray⟩:ByteArray).toList=l:=by
 simp

theorem run_bin_str (op:BinOp) (t:TypeId) (a b:List UInt8) {d:DV} (h:binS op a b=some d) :
  ∃ v,(binOp op t (.string ⟨a.toArray⟩) (.string ⟨b.toArray⟩)).run P w=.ok v w∧VR w c.B (okb c.ok0 c.B O) O d v:=by
 have e1:=toList_mk a
 have e2:=toList_mk b
 cases op <;> simp only [binS] at h <;> try (cases h; done)
 case add =>
  split at h
  ·rename_i hb
   injection h with h; subst h
   refine ⟨.string ⟨(a++b).toArray⟩,?_,.mkS _⟩
   have hs:¬ (((ByteArray.mk a.toArray).size+(ByteArray.mk b.toArray).size:Nat):Int) > IntKind.i64.max:=by
    have h1:(ByteArray.mk a.toArray).size=a.length:=by simp [ByteArray.size]
    have h2:(ByteArray.mk b.toArray).size=b.length:=by simp [ByteArray.size]
    rw [h1,h2]
    unfold bound at hb
    simp only [IntKind.max,IntKind.signed,IntKind.bits]
    omega
   simp only [binOp,Op.stringOp,hs,if_false]
   have:(ByteArray.mk a.toArray)++(ByteArray.mk b.toArray)=ByteArray.mk (a++b).toArray:=by
    apply ByteArray.ext
    simp [ByteArray.data_append]
   rw [this]; rfl
  ·cases h
 all_goals
  injection h with h; subst h
  refine ⟨_,?_,.mkB _⟩
  simp only [binOp,Op.stringOp,e1,e2]
  rfl
end
end Go.Lg

namespace Go.Lg
open Go.RowKit
variable [GL]
set_option linter.unusedVariables false

theorem flat_cons (e:DV) (es:List DV):flat (e :: es)=e.cells++flat es:=rfl
theorem flat_append (a b:List DV):flat (a++b)=flat a++flat b:=by simp [flat]
theorem flat_len {sz:Nat}:∀ {es:List DV},(∀ e∈es,e.cells.length=sz)→(flat es).length=es.length * sz
 | [],_=>by simp [flat]
 | e :: es,h=>by
  rw [flat_cons,List.length_append,h e (List.mem_cons_self ..),flat_len (fun x hx=>h x (List.mem_cons_of_mem _ hx)),List.length_cons,Nat.add_mul]
  omega
theorem flat_get {sz:Nat}:∀ {es:List DV},(∀ e∈es,e.cells.length=sz)→∀ {i:Nat} {e:DV},es[i]?=some e→∀ {j:Nat},j < sz→(flat es)[i * sz+j]?=e.cells[j]?
 | [],_,_,_,he,_,_=>by simp at he
 | x :: es,h,0,e,he,j,hj=>by
  simp at he
  subst he
  rw [flat_cons,List.getElem?_append_left (by rw [h x (List.mem_cons_self ..)]; omega)]
  simp
 | x :: es,h,i+1,e,he,j,hj=>by
  simp at he
  rw [flat_cons,List.getElem?_append_right (by rw [h x (List.mem_cons_self ..),Nat.add_mul]; omega),h x (List.mem_cons_self ..)]
  rw [show (i+1) * sz+j - sz=i * sz+j by rw [Nat.add_mul]; omega]
  exact flat_get (fun y hy=>h y (List.mem_cons_of_mem _ hy)) he hj
theorem flat_take {sz:Nat}:∀ {es:List DV},(∀ e∈es,e.cells.length=sz)→∀ (k:Nat),flat (es.take k)=(flat es).take (k * sz)
 | [],_,k=>by simp [flat]
 | x :: es,h,0=>by simp [flat]
 | x :: es,h,k+1=>by
  have hx:=h x (List.mem_cons_self ..)
  have e1:(x.cells++flat es).take ((k+1) * sz)=x.cells++(flat es).take (k * sz):=by
   rw [List.take_append,List.take_of_length_le (l:=x.cells) (by rw [hx,Nat.add_mul]; omega),hx,show (k+1) * sz - sz=k * sz by rw [Nat.add_mul]; omega]
  rw [List.take_succ_cons,flat_cons,flat_cons,flat_take (fun y hy=>h y (List.mem_cons_of_mem _ hy)) k,e1]
theorem flat_drop {sz:Nat}:∀ {es:List DV},(∀ e∈es,e.cells.length=sz)→∀ (k:Nat),flat (es.drop k)=(flat es).drop (k * sz)
 | [],_,k=>by simp [flat]
 | x :: es,h,0=>by simp [flat]
 | x :: es,h,k+1=>by
  have hx:=h x (List.mem_cons_self ..)
  have e1:(x.cells++flat es).drop ((k+1) * sz)=(flat es).drop (k * sz):=by
   rw [List.drop_append,List.drop_of_length_le (l:=x.cells) (by rw [hx,Nat.add_mul]; omega),hx,show (k+1) * sz - sz=k * sz by rw [Nat.add_mul]; omega]
   rfl
  rw [List.drop_succ_cons,flat_cons,flat_drop (fun y hy=>h y (List.mem_cons_of_mem _ hy)) k,e1]
theorem flat_set {sz:Nat} {es:List DV} (h:∀ e∈es,e.cells.length=sz) {a:Nat} (ha:a < es.length) (x:DV) (hx:x.cells.length=sz) :
  flat (es.set a x)=(flat es).take (a * sz)++x.cells++(flat es).drop (a * sz+sz):=by
 have e1:es.set a x=es.take a++x :: es.drop (a+1):=by rw [List.set_eq_take_append_cons_drop,if_pos ha]
 rw [e1,flat_append,flat_cons,flat_take h,flat_drop h,Nat.add_mul,Nat.one_mul,List.append_assoc]

section
variable {w:World} {B:Nat} {ok:OkT}
theorem CRs.append {a b:List DV} {xs ys:List Value} (h:CRs w B ok a xs) (k:CRs w B ok b ys):CRs w B ok (a++b) (xs++ys):=by
 refine ⟨by simp [h.1,k.1],fun j c u hc hu=>?_⟩
 by_cases hj:j < a.length
 ·rw [List.getElem?_append_left hj] at hc
  rw [List.getElem?_append_left (by rw [h.1]; exact hj)] at hu
  exact h.2 j c u hc hu
 ·rw [List.getElem?_append_right (by omega)] at hc
  rw [List.getElem?_append_right (by rw [h.1]; omega),h.1] at hu
  exact k.2 _ c u hc hu
theorem CRs.take {a:List DV} {xs:List Value} (h:CRs w B ok a xs) (k:Nat):CRs w B ok (a.take k) (xs.take k):=by
 refine ⟨by simp [h.1],fun j c u hc hu=>?_⟩
 rw [List.getElem?_take] at hc hu
 split at hc
 ·rename_i hj; rw [if_pos hj] at hu; exact h.2 j c u hc hu
 ·cases hc
theorem CRs.drop {a:List DV} {xs:List Value} (h:CRs w B ok a xs) (k:Nat):CRs w B ok (a.drop k) (xs.drop k):=by
 refine ⟨by simp [h.1],fun j c u hc hu=>?_⟩
 rw [List.getElem?_drop] at hc hu
 exact h.2 _ c u hc hu
theorem CRs.one {d:DV} {v:Value} (h:CR w B ok d v):CRs w B ok [d] [v]:=by
 refine ⟨rfl,fun j c u hc hu=>?_⟩
 cases j with
 | zero=>simp at hc hu; subst hc; subst hu; exact h
 | succ j=>simp at hc
theorem CRs.get {a:List DV} {xs:List Value} (h:CRs w B ok a xs) {j:Nat} {c:DV} (hc:a[j]?=some c):∃ u,xs[j]?=some u∧CR w B ok c u:=by
 have hj:j < a.length:=(List.getElem?_eq_some_iff.1 hc).1
 have hx:j < xs.length:=by rw [h.1]; exact hj
 exact ⟨xs[j],List.getElem?_eq_getElem hx,h.2 j c _ hc (List.getElem?_eq_getElem hx)⟩
theorem CRs.oneCell {a:List DV} {xs:List Value} (h:CRs w B ok a xs):∀ u∈xs,u.oneCell'=true:=by
 intro u hu
 obtain ⟨j,hj,rfl⟩:=List.getElem_of_mem hu
 have hja:j < a.length:=by rw [← h.1]; exact hj
 exact (h.2 j _ _ (List.getElem?_eq_getElem hja) (List.getElem?_eq_getElem hj)).oneCell

theorem block_add (a:Addr) (n:Nat):(a.add n).block=a.block:=by unfold Addr.add; split <;> rfl
theorem add_add' (a:Addr) (i j:Nat):(a.add i).add j=a.add (i+j):=Go.Deep.add_add a i j
theorem add_plain' (g o n:Nat):(⟨g,o,none⟩:Addr).add n=⟨g,o+n,none⟩:=by
 unfold Addr.add
 split
 ·rename_i h; rw [h]; rfl
 ·rfl

/-- A part of cells that are said. -/
theorem part_ok {cs:List DV} {xs:List Value} (h:CRs w B ok cs xs) {off sz:Nat} {agg:Bool} {e:DV} (hp:part cs off sz agg=some e) (hsz:agg=false→sz=1) :
  CRs w B ok e.cells ((xs.drop off).take sz)∧(agg=true→∃ cs',e=.st cs')∧(agg=false→e.cells=[e]):=by
 unfold part at hp
 cases agg with
 | true =>
  simp only [if_true] at hp
  split at hp
  ·injection hp with hp
   subst hp
   exact ⟨(h.drop off).take sz,fun _=>⟨_,rfl⟩,(fun h=>by cases h)⟩
  ·cases hp
 | false =>
  simp only [Bool.false_eq_true,if_false] at hp
  have h1:=hsz rfl
  subst h1
  obtain ⟨u,hu,hc⟩:=h.get hp
  have hcell:=hc.cells.1
  refine ⟨?_,(fun h=>by cases h),fun _=>hcell⟩
  rw [hcell]
  have:(xs.drop off).take 1=[u]:=by
   have hlt:off < xs.length:=(List.getElem?_eq_some_iff.1 hu).1
   rw [List.drop_eq_getElem_cons hlt]
   have:xs[off]=u:=(List.getElem?_eq_some_iff.1 hu).2
   simp [this]
  rw [this]
  exact .one hc
end

section
variable {P:Program} {c:Cx} {fr:Nat→Bool} {w:World} {O:OM} {ob:OB} {o:Oper} {ρ:Operand→Value}

theorem out_bin (hm:MR c O ob w) {op:BinOp} {t yt:TypeId} {x y:Operand} (ho:o.op=.binOp op t x y yt) {dx dy d:DV} (hx:VR w c.B (okb c.ok0 c.B O) O dx (ρ x)) (hy:VR w c.B (okb c.ok0 c.B O) O dy (ρ y))
  (he:binD op dx dy=some d):Out P c fr w O ((execOp ρ o).run P w) d ob:=by
 have key:∃ v,(binOp op t (ρ x) (ρ y)).run P w=.ok v w∧VR w c.B (okb c.ok0 c.B O) O d v∧(∀ cs ds,¬ (ρ x=.agg cs∧ρ y=.agg ds))∧ρ x≠.nilIface:=by
  unfold binD at he
  split at he
  ·rename_i a b; rw [hx.int,hy.int]; obtain ⟨v,h1,h2⟩:=run_bin_int (P:=P) op t a b he; exact ⟨v,h1,h2,by simp,by simp⟩
  ·rename_i a b; rw [hx.byte,hy.byte]; obtain ⟨v,h1,h2⟩:=run_bin_byte (P:=P) op t a b he; exact ⟨v,h1,h2,by simp,by simp⟩
  ·rename_i a b; rw [hx.str,hy.str]; obtain ⟨v,h1,h2⟩:=run_bin_str (P:=P) op t a b he; exact ⟨v,h1,h2,by simp,by simp⟩
  ·rename_i a b; rw [hx.word,hy.word]; obtain ⟨v,h1,h2⟩:=run_bin_word (P:=P) op t a b he; exact ⟨v,h1,h2,by simp,by simp⟩
  ·rename_i a b; rw [hx.word,hy.int]; obtain ⟨v,h1,h2⟩:=run_shift_word (P:=P) op t a b .i64 he; exact ⟨v,h1,h2,by simp,by simp⟩
  ·rename_i a b; rw [hx.word,hy.quad.1]; obtain ⟨v,h1,h2⟩:=run_shift_word (P:=P) op t a b .u64 he; exact ⟨v,h1,h2,by simp,by simp⟩
  ·rename_i a b; rw [hx.quad.1,hy.int]; obtain ⟨v,h1,h2⟩:=run_shift_quad (P:=P) op t a b .i64 he hx.quad.2; exact ⟨v,h1,h2,by simp,by simp⟩
  ·rename_i a b; rw [hx.quad.1,hy.quad.1]; obtain ⟨v,h1,h2⟩:=run_bin_quad (P:=P) op t a b he hx.quad.2; exact ⟨v,h1,h2,by simp,by simp⟩
  ·cases he
 obtain ⟨v,h1,h2,h3,h4⟩:=key
 refine Out.same hm (v:=v) ?_ h2
 simp only [execOp,ho,Sem.run_bind,run_eqGuard_plain op t x y _ _ h3 h4,Result.andThen_ok,h1]
 rfl

theorem out_un (hm:MR c O ob w) {op:UnOp} {t:TypeId} {x:Operand} (ho:o.op=.unOp op t x) {dx d:DV} (hx:VR w c.B (okb c.ok0 c.B O) O dx (ρ x))
  (he:unD op dx=some d):Out P c fr w O ((execOp ρ o).run P w) d ob:=by
 unfold unD at he
 split at he
 ·injection he with he; subst he
  refine Out.same hm (v:=.bool _) ?_ (.mkB _)
  simp only [execOp,ho,hx.bool]; rfl
 ·injection he with he; subst he
  refine Out.same hm (v:=.int .i64 _) ?_ (.mkI _)
  simp only [execOp,ho,hx.int]; rfl
 ·rename_i a
  injection he with he; subst he
  have e:(Op.unary .xor (.int .u32 a.toNat)).run P w=.ok (.int .u32 (~~~a).toNat) w:=by
   have h:=bits_u32 (P:=P) (w:=w) (BitVec.allOnes 32) a .xor _ (.inr (.inr (.inl ⟨rfl,rfl⟩)))
   rw [BitVec.allOnes_xor] at h
   exact h
  refine Out.same hm (v:=.int .u32 (~~~a).toNat) ?_ (.mkW _)
  simp [execOp,ho,hx.word,e]
 ·rename_i a
  injection he with he; subst he
  have ha:=hx.quad.2
  have e:IntKind.u64.wrap (0 - (a:Int))=(((18446744073709551616 - a) % 18446744073709551616:Nat):Int):=by
   simp [IntKind.wrap,IntKind.signed,IntKind.bits]
   omega
  have e2:(Op.unary .neg (.int .u64 (a:Int))).run P w=.ok (.int .u64 (IntKind.u64.wrap (0 - (a:Int)))) w:=rfl
  rw [e] at e2
  refine Out.same hm (v:=.int .u64 (((18446744073709551616 - a) % 18446744073709551616:Nat):Int)) ?_ (.cr _ _ (.q _ (Nat.mod_lt _ (by omega))))
  simp [execOp,ho,hx.quad.1,e2]
 ·cases he

theorem run_equal_bool (t:TypeId) (ht:P.underlying t=some .bool) (a b:Bool):(Op.equal t (.bool a) (.bool b)).run P w=.ok (a == b) w:=by
 have h:∀ d:Nat,(Op.equalIn (d+1) t (.bool a) (.bool b)).run P w=.ok (a == b) w:=fun d=>by
  simp [Op.equalIn,run_underlying ht]
 exact h 9999

theorem out_eqb (hm:MR c O ob w) {op:BinOp} {t yt:TypeId} {x y:Operand} (ho:o.op=.binOp op t x y yt) {g:Bool} (hop:op=if g then .neq else .eql) (ht:P.underlying t=some .bool) {a b:Bool}
  (hx:VR w c.B (okb c.ok0 c.B O) O (.b a) (ρ x)) (hy:VR w c.B (okb c.ok0 c.B O) O (.b b) (ρ y)):Out P c fr w O ((execOp ρ o).run P w) (.b (xor g (a == b))) ob:=by
 refine Out.same hm (v:=.bool (xor g (a == b))) ?_ (.mkB _)
 subst hop
 cases g <;> simp [execOp,ho,run_eqGuard_plain _ t x y (.bool a) (.bool b),hx.bool,hy.bool,binOp,run_equal_bool t ht]

theorem VR.slice_ {d:DV} {v:Value} (h:VR w c.B (okb c.ok0 c.B O) O d v):(∀ p es,d=.sl p es→∃ A cap,v=.slice A es.length cap)∧(∀ k n lo hi,d=.own k n lo hi→∃ A cap,v=.slice A (hi - lo) cap)∧(d=.nil→v=.slice none 0 0):=by
 refine ⟨fun p es he=>?_,fun k n lo hi he=>?_,fun he=>?_⟩
 ·subst he
  cases h with | cr _ _ h=>cases h with
   | sl0=>exact ⟨_,_,rfl⟩
   | sl _ _ ad n cap sz xs hn=>subst hn; exact ⟨_,_,rfl⟩
 ·subst he
  cases h with
  | cr _ _ h=>cases h
  | own _ _ _ _ p _ hO hn h1 h2 hv=>obtain ⟨A,c',rfl,_⟩:=hv; exact ⟨_,_,rfl⟩
  | ownS=>exact ⟨_,_,rfl⟩
 ·subst he
  cases h with
  | cr _ _ h=>cases h
  | nil=>rfl

theorem out_len (hm:MR c O ob w) {x:Operand} {t e:TypeId} (ho:o.op=.call { callee:=.builtin .len,args:=#[x],argTypes:=#[t] }) (ht:P.underlying t=some (.slice e)) {n:Nat} {A:Option Addr} {cap:Nat}
  (hx:ρ x=.slice A n cap):Out P c fr w O ((execOp ρ o).run P w) (.i n) ob:=by
 refine Out.same hm (v:=.int .i64 n) ?_ (.mkI _)
 simp [execOp,ho,resolve,invoke,builtin,Builtin.len_,run_underlying ht,hx,goInt]
theorem out_lens (hm:MR c O ob w) {x:Operand} {t:TypeId} (ho:o.op=.call { callee:=.builtin .len,args:=#[x],argTypes:=#[t] }) (ht:P.underlying t=some .string) {l:List UInt8}
  (hx:VR w c.B (okb c.ok0 c.B O) O (.s l) (ρ x)):Out P c fr w O ((execOp ρ o).run P w) (.i l.length) ob:=by
 refine Out.same hm (v:=.int .i64 l.length) ?_ (.mkI _)
 have hs:(ByteArray.mk l.toArray).size=l.length:=by show l.toArray.size=_; simp
 simp [execOp,ho,resolve,invoke,builtin,Builtin.len_,run_underlying ht,hx.str,goInt,hs]

theorem VR.adr' {d:DV} {v:Value} (h:VR w c.B (okb c.ok0 c.B O) O (.adr d) v):∃ ad xs,v=.pointer (some ad)∧okb c.ok0 c.B O ad.block∧ad.block < w.heap.size∧(∀ (j:Nat) (u:Value),xs[j]?=some u→w.cell? (ad.add j)=some u)∧CRs w c.B (okb c.ok0 c.B O) d.cells xs:=by
 cases h with
 | cr _ _ h=>cases h
 | adr _ ad xs h1 h2 h3 h4=>exact ⟨ad,xs,rfl,h1,h2,h3,h4⟩
theorem VR.oad' {k n a q:Nat} {v:Value} (h:VR w c.B (okb c.ok0 c.B O) O (.oad k n a q) v) :
  ∃ ad,v=.pointer (some ad)∧((∃ p g,O k=some p∧p.len=n∧p.hv.ownBlock=some g∧ad=⟨g,a * p.sz+q,none⟩)∨∀ p,O k=some p→n < p.len):=by
 cases h with
 | cr _ _ h=>cases h
 | oad _ _ _ _ p g hO hn hg=>exact ⟨_,rfl,.inl ⟨p,g,hO,hn,hg,rfl⟩⟩
 | oadS _ _ _ _ ad hO=>exact ⟨ad,rfl,.inr hO⟩

theorem out_chk (hm:MR c O ob w) {x:Operand} (ho:o.op=.nilCheck x) {d:DV} (hx:VR w c.B (okb c.ok0 c.B O) O d (ρ x)) (hp:∃ ad,ρ x=.pointer (some ad)):Out P c fr w O ((execOp ρ o).run P w) d ob:=by
 obtain ⟨ad,hp⟩:=hp
 refine Out.same hm (v:=ρ x) ?_ hx
 simp only [execOp,ho,hp]
 rfl

theorem run_fieldAt {t:TypeId} {f off sz:Nat} {agg:Bool} (hf:fieldOf P t f=some (off,sz,agg)) (ad:Addr):(Instr.fieldAt t (.pointer (some ad)) f).run P w=.ok (.pointer (some (ad.add off))) w:=by
 unfold fieldOf at hf
 split at hf
 ·rename_i fs hu
  split at hf
  ·rename_i x hx
   split at hf
   ·rename_i n g hn hg
    split at hf
    ·rename_i hpos
     injection hf with hf
     simp only [Prod.mk.injEq] at hf
     obtain ⟨rfl,rfl,rfl⟩:=hf
     simp only [szOf,Option.map_eq_some_iff] at hn
     obtain ⟨i,hi,hin⟩:=hn
     have hne:¬ i.size=0:=by omega
     simp [Instr.fieldAt,run_underlying hu,hx,Instr.sureAddr,fieldPlace,sizeOf,typeInfo,hi,hne]
    ·cases hf
   ·cases hf
  ·cases hf
 ·cases hf

theorem out_fld (hm:MR c O ob w) {x:Operand} {t:TypeId} {f:Nat} (ho:o.op=.fieldAddr t x f) {off sz:Nat} {agg:Bool} (hf:fieldOf P t f=some (off,sz,agg)) (hone:agg=false→sz=1) {d e:DV}
  (hx:VR w c.B (okb c.ok0 c.B O) O (.adr d) (ρ x)) (he:part d.cells off sz agg=some e):Out P c fr w O ((execOp ρ o).run P w) (.adr e) ob:=by
 obtain ⟨ad,xs,hv,h1,h2,h3,h4⟩:=hx.adr'
 refine Out.same hm (v:=.pointer (some (ad.add off))) ?_ ?_
 ·simp only [execOp,ho,hv,Sem.run_bind,run_fieldAt hf,Result.andThen_ok]; rfl
 ·obtain ⟨h5,_,_⟩:=part_ok h4 he hone
  refine .adr e _ _ (by rw [block_add]; exact h1) (by rw [block_add]; exact h2) (fun j u hu=>?_) h5
  rw [add_add']
  rw [List.getElem?_take] at hu
  split at hu
  ·rw [List.getElem?_drop] at hu; exact h3 _ u hu
  ·cases hu
theorem out_fldO (hm:MR c O ob w) {x:Operand} {t:TypeId} {f:Nat} (ho:o.op=.fieldAddr t x f) {off sz:Nat} {agg:Bool} (hf:fieldOf P t f=some (off,sz,agg)) {k n a q:Nat}
  (hx:VR w c.B (okb c.ok0 c.B O) O (.oad k n a q) (ρ x)):Out P c fr w O ((execOp ρ o).run P w) (.oad k n a (q+off)) ob:=by
 obtain ⟨ad,hv,h⟩:=hx.oad'
 refine Out.same hm (v:=.pointer (some (ad.add off))) ?_ ?_
 ·simp only [execOp,ho,hv,Sem.run_bind,run_fieldAt hf,Result.andThen_ok]; rfl
 ·rcases h with ⟨p,g,hO,hn,hg,rfl⟩ | h
  ·rw [add_plain',Nat.add_assoc]
   exact .oad k n a (q+off) p g hO hn hg
  ·exact .oadS k n a (q+off) _ h

theorem run_part {t:TypeId} {off sz:Nat} {agg:Bool} (hn:szOf P t=some sz) (hg:aggOf P t=some agg) (cs:List DV) (xs:Array Value) {e:DV} {B:Nat} {ok:OkT} (h:CRs w B ok cs xs.toList)
  (he:part cs off sz agg=some e) (hone:agg=false→sz=1) :
  ∃ v,(Go.part t xs off).run P w=.ok v w∧((∃ cs',e=.st cs'∧∃ vs:Array Value,v=.agg vs∧CRs w B ok cs' vs.toList)∨CR w B ok e v):=by
 obtain ⟨h1,h2,h3⟩:=part_ok h he hone
 simp only [szOf,Option.map_eq_some_iff] at hn
 obtain ⟨i,hi,rfl⟩:=hn
 cases agg with
 | true =>
  have hagg:(isAgg t).run P w=.ok true w:=by
   unfold aggOf at hg
   unfold isAgg
   split at hg
   ·rename_i fs hu; simp [run_underlying hu]
   ·rename_i k e hu; simp [run_underlying hu]
   ·simp at hg
   ·cases hg
  obtain ⟨cs',rfl⟩:=h2 rfl
  refine ⟨.agg (xs.extract off (off+i.size)),by simp [Go.part,hagg,sizeOf,typeInfo,hi],.inl ⟨cs',rfl,_,rfl,?_⟩⟩
  have:(xs.extract off (off+i.size)).toList=(xs.toList.drop off).take i.size:=by
   rw [Array.toList_extract,List.extract_eq_take_drop]
   congr 1
   omega
  rw [this]
  exact h1
 | false =>
  have hagg:(isAgg t).run P w=.ok false w:=by
   unfold aggOf at hg
   unfold isAgg
   split at hg
   ·simp at hg
   ·simp at hg
   ·rename_i d h1 h2 hu
    simp only [run_underlying hu,Sem.run_bind,Result.andThen_ok]; rfl
   ·cases hg
  unfold Go.Lg.part at he
  simp only [Bool.false_eq_true,if_false] at he
  obtain ⟨u,hu,hc⟩:=h.get he
  refine ⟨u,?_,.inr hc⟩
  have hu':xs[off]?=some u:=by simpa using hu
  simp [Go.part,hagg,hu']

theorem out_fldv (hm:MR c O ob w) {x:Operand} {t:TypeId} {f:Nat} (ho:o.op=.field t x f) {off sz:Nat} {agg:Bool} (hf:fieldOf P t f=some (off,sz,agg)) (hone:agg=false→sz=1) {cs:List DV} {e:DV}
  (hx:VR w c.B (okb c.ok0 c.B O) O (.st cs) (ρ x)) (he:part cs off sz agg=some e):Out P c fr w O ((execOp ρ o).run P w) e ob:=by
 obtain ⟨vs,hv,hc⟩:=hx.st'
 unfold fieldOf at hf
 split at hf
 ·rename_i fs hu
  split at hf
  ·rename_i y hy
   split at hf
   ·rename_i n g hn hg
    split at hf
    ·injection hf with hf
     simp only [Prod.mk.injEq] at hf
     obtain ⟨rfl,rfl,rfl⟩:=hf
     obtain ⟨v,hr,hor⟩:=run_part (P:=P) hn hg cs vs hc he hone
     refine Out.same hm (v:=v) ?_ ?_
     ·simp [execOp,ho,hv,Instr.field,run_underlying hu,hy,asAgg,hr]
     ·rcases hor with ⟨cs',rfl,us,rfl,h⟩ | h
      ·exact .st _ _ h
      ·exact .cr _ _ h
    ·cases hf
   ·cases hf
  ·cases hf
 ·cases hf
end
end Go.Lg

namespace Go.Lg
open Go.RowKit
variable [GL]
set_option linter.unusedVariables false

section
variable {P:Program} {c:Cx} {fr:Nat→Bool} {w:World} {O:OM} {ob:OB} {o:Oper} {ρ:Operand→Value}

theorem CR.sl' {w:World} {B:Nat} {ok:OkT} {p:Nat} {es:List DV} {v:Value} (h:CR w B ok (.sl p es) v) (hne:0 < es.length) :
  ∃ (ad:Addr) (cap sz:Nat) (xs:List Value),v=.slice (some ad) es.length cap∧es.length≤cap∧cap≤maxLen∧(∀ e∈es,e.cells.length=sz)∧ok ad.block∧ad.block < w.heap.size∧(p=0→ad.block < B)∧(p=1∨p=3→B≤ad.block) ∧
   (∀ (j:Nat) (u:Value),xs[j]?=some u→w.cell? (ad.add j)=some u)∧CRs w B ok (flat es) xs:=by
 cases h with
 | sl0=>simp at hne
 | sl _ _ ad n cap sz xs hn h0 hc hm hsz hok hlt hold hnew hrow hl hcell hrec=>subst hn; exact ⟨ad,cap,sz,xs,rfl,hc,hm,hsz,hok,hlt,hold,hnew,hcell,hl,hrec⟩
theorem VR.sl' {p:Nat} {es:List DV} {v:Value} (h:VR w c.B (okb c.ok0 c.B O) O (.sl p es) v):CR w c.B (okb c.ok0 c.B O) (.sl p es) v:=by
 cases h with | cr _ _ h=>exact h

/-- An owned slice that is up to date. -/
theorem VR.own_cur {k n lo hi:Nat} {v:Value} {es:List DV} (hm:MR c O ob w) (h:VR w c.B (okb c.ok0 c.B O) O (.own k n lo hi) v) (hl:lookO ob k=some es) (hn:es.length=n) :
  ∃ p,O k=some p∧p.len=n∧lo≤hi∧hi≤n∧view p lo hi v∧OR w c.B (okb c.ok0 c.B O) p es:=by
 obtain ⟨p,hO,ho⟩:=hm.get hl
 have hp:p.len=n:=by rw [ho.len,hn]
 cases h with
 | cr _ _ h=>cases h
 | own _ _ _ _ p' _ hO' hn' h1 h2 hv=>rw [hO] at hO'; injection hO' with hO'; subst hO'; exact ⟨p,hO,hp,h1,h2,hv,ho⟩
 | ownS _ _ _ _ A cap hS=>have:=hS p hO; omega
theorem VR.oad_cur {k n a q:Nat} {v:Value} {es:List DV} (hm:MR c O ob w) (h:VR w c.B (okb c.ok0 c.B O) O (.oad k n a q) v) (hl:lookO ob k=some es) (hn:es.length=n) :
  ∃ p g,O k=some p∧p.len=n∧p.hv.ownBlock=some g∧v=.pointer (some ⟨g,a * p.sz+q,none⟩)∧OR w c.B (okb c.ok0 c.B O) p es:=by
 obtain ⟨p,hO,ho⟩:=hm.get hl
 have hp:p.len=n:=by rw [ho.len,hn]
 cases h with
 | cr _ _ h=>cases h
 | oad _ _ _ _ p' g hO' hn' hg=>rw [hO] at hO'; injection hO' with hO'; subst hO'; exact ⟨p,g,hO,hp,hg,rfl,ho⟩
 | oadS _ _ _ _ ad hS=>have:=hS p hO; omega

theorem mem_take_drop {α:Type} {x:α} {l:List α} {a b:Nat} (h:x∈(l.take b).drop a):x∈l:=List.mem_of_mem_take (List.mem_of_mem_drop h)

/-- A value on its way into a cell. -/
theorem settle_ok (hm:MR c O ob w) {d d':DV} {v:Value} {ob':OB} (h:VR w c.B (okb c.ok0 c.B O) O d v) (hs:settle ob d=some (d',ob')) :
  ∃ O',MR c O' ob' w∧Tr c.ok0 c.B (fun _=>False) w O w O'∧CRs w c.B (okb c.ok0 c.B O') d'.cells v.cells.toList∧((∃ cs,d'=.st cs)∨CR w c.B (okb c.ok0 c.B O') d' v) ∧
   (∀ k p',O' k=some p'→O k=some p')∧(∀ k es,lookO ob' k=some es→lookO ob k=some es):=by
 have plain:∀ {d:DV},VR w c.B (okb c.ok0 c.B O) O d v→(∃ v0,CR w c.B (okb c.ok0 c.B O) d v0∧v0=v)→d'=d→ob'=ob →
   ∃ O',MR c O' ob' w∧Tr c.ok0 c.B (fun _=>False) w O w O'∧CRs w c.B (okb c.ok0 c.B O') d'.cells v.cells.toList∧((∃ cs,d'=.st cs)∨CR w c.B (okb c.ok0 c.B O') d' v) ∧
   (∀ k p',O' k=some p'→O k=some p')∧(∀ k es,lookO ob' k=some es→lookO ob k=some es):=by
  rintro d _ ⟨v0,hc,rfl⟩ rfl rfl
  refine ⟨O,hm,Tr.refl _ _ _ _ _,?_,.inr hc,fun _ _ h=>h,fun _ _ h=>h⟩
  rw [hc.cells.1,hc.cells.2]
  exact .one hc
 cases d with
 | i n=>simp only [settle,Option.some.injEq,Prod.mk.injEq] at hs; exact plain h ⟨v,by cases h with | cr _ _ h=>exact h,rfl⟩ hs.1.symm hs.2.symm
 | y n=>simp only [settle,Option.some.injEq,Prod.mk.injEq] at hs; exact plain h ⟨v,by cases h with | cr _ _ h=>exact h,rfl⟩ hs.1.symm hs.2.symm
 | b n=>simp only [settle,Option.some.injEq,Prod.mk.injEq] at hs; exact plain h ⟨v,by cases h with | cr _ _ h=>exact h,rfl⟩ hs.1.symm hs.2.symm
 | s n=>simp only [settle,Option.some.injEq,Prod.mk.injEq] at hs; exact plain h ⟨v,by cases h with | cr _ _ h=>exact h,rfl⟩ hs.1.symm hs.2.symm
 | w n=>simp only [settle,Option.some.injEq,Prod.mk.injEq] at hs; exact plain h ⟨v,by cases h with | cr _ _ h=>exact h,rfl⟩ hs.1.symm hs.2.symm
 | q n=>simp only [settle,Option.some.injEq,Prod.mk.injEq] at hs; exact plain h ⟨v,by cases h with | cr _ _ h=>exact h,rfl⟩ hs.1.symm hs.2.symm
 | r n=>simp only [settle,Option.some.injEq,Prod.mk.injEq] at hs; exact plain h ⟨v,by cases h with | cr _ _ h=>exact h,rfl⟩ hs.1.symm hs.2.symm
 | cel k n=>simp only [settle,Option.some.injEq,Prod.mk.injEq] at hs; exact plain h ⟨v,by cases h with | cr _ _ h=>exact h,rfl⟩ hs.1.symm hs.2.symm
 | sl p es=>simp only [settle,Option.some.injEq,Prod.mk.injEq] at hs; exact plain h ⟨v,h.sl',rfl⟩ hs.1.symm hs.2.symm
 | st cs =>
  simp only [settle,Option.some.injEq,Prod.mk.injEq] at hs
  obtain ⟨rfl,rfl⟩:=hs
  obtain ⟨vs,rfl,hc⟩:=h.st'
  exact ⟨O,hm,Tr.refl _ _ _ _ _,hc,.inl ⟨_,rfl⟩,fun _ _ h=>h,fun _ _ h=>h⟩
 | nil =>
  simp only [settle,Option.some.injEq,Prod.mk.injEq] at hs
  obtain ⟨rfl,rfl⟩:=hs
  have hv:=(h.slice_).2.2 rfl
  subst hv
  have hc:CR w c.B (okb c.ok0 c.B O) (.sl 1 []) (.slice none 0 0):=.sl0 1 none 0 (Nat.zero_le _)
  exact ⟨O,hm,Tr.refl _ _ _ _ _,.one hc,.inr hc,fun _ _ h=>h,fun _ _ h=>h⟩
 | own k n lo hi =>
  simp only [settle,elems] at hs
  cases hl:lookO ob k with
  | none=>rw [hl] at hs; cases hs
  | some es =>
   rw [hl] at hs
   simp only at hs
   split at hs
   ·rename_i es' hes
    split at hes
    ·rename_i hcond
     injection hes with hes
     subst hes
     split at hs
     ·cases hs
     ·rename_i hk7
      injection hs with hs
      simp only [Prod.mk.injEq] at hs
      obtain ⟨rfl,rfl⟩:=hs
      obtain ⟨hn,hlo,hhi⟩:=hcond
      obtain ⟨p,hO,hp,_,_,hv,ho⟩:=h.own_cur hm hl hn
      obtain ⟨hm',ht⟩:=hm.drop k (by omega)
      obtain ⟨A,cp,rfl,hc1,hc2,hA,hfull,_⟩:=hv
      have hlen:((es.take hi).drop lo).length=hi - lo:=by simp; omega
      have hcr:CR w c.B (okb c.ok0 c.B (upd O k none)) (.sl (wholeP n lo hi) ((es.take hi).drop lo)) (.slice A (hi - lo) cp):=by
       by_cases h0:lo < hi
       ·obtain ⟨g,hg,rfl⟩:=hA h0
        obtain ⟨xs,hr,hcs⟩:=ho.row
        have hwid:∀ e∈es.take hi,e.cells.length=p.sz:=fun e he=>ho.wid e (List.mem_of_mem_take he)
        have hfl:flat ((es.take hi).drop lo)=((flat es).take (hi * p.sz)).drop (lo * p.sz):=by rw [flat_drop hwid,flat_take ho.wid]
        have hcs':=((hcs.tr ht).take (hi * p.sz)).drop (lo * p.sz)
        rw [← hfl] at hcs'
        have hokg:okb c.ok0 c.B (upd O k none) g:=by
         refine ⟨fun hlt=>?_,fun j q hj hq=>?_⟩
         ·rcases hm.base k p g hO hg with h1 | ⟨h1,_⟩
          ·omega
          ·exact absurd h1 (by omega)
         ·by_cases hjk:j=k
          ·subst hjk; rw [upd_same] at hj; cases hj
          ·rw [upd_other O _ hjk] at hj
           exact hjk (hm.inj j k q p g hj hO hq hg)
        have hnew:c.B≤g:=by
         rcases hm.base k p g hO hg with h1 | ⟨h1,_⟩
         ·exact h1
         ·exact absurd h1 (by omega)
        refine .sl _ _ ⟨g,lo * p.sz,none⟩ (hi - lo) cp p.sz _ hlen (by omega) hc1 hc2 (fun e he=>ho.wid e (mem_take_drop he)) hokg (hm.lt hO hg) (fun h=>by unfold wholeP at h; split at h <;> cases h) (fun _=>hnew) (fun h=>?_) hcs'.1 (fun j u hu=>?_) hcs'.2
        ·unfold wholeP at h
         split at h
         ·rename_i h01
          obtain ⟨rfl,rfl⟩:=h01
          have e:=hfull rfl hp.symm
          refine ⟨p.ty,?_⟩
          have hxl:xs.length=p.len * p.sz:=hr.1
          have hx:(xs.take (hi * p.sz)).drop (0 * p.sz)=xs:=by rw [Nat.zero_mul,List.drop_zero]; exact List.take_of_length_le (by rw [hxl,hp]; exact Nat.le_refl _)
          rw [hx,e]
          have:=hr
          rw [hp] at this
          exact this
         ·cases h
        rw [List.getElem?_drop,List.getElem?_take] at hu
        split at hu
        ·have:=hr.cells hg (lo * p.sz+j) u hu
         rw [add_plain'] at this ⊢
         simpa using this
        ·cases hu
       ·have h1:hi - lo=0:=by omega
        have h2:(es.take hi).drop lo=[]:=List.eq_nil_of_length_eq_zero (by omega)
        rw [h1,h2]
        exact .sl0 _ A cp hc2
      refine ⟨_,hm',ht,.one hcr,.inr hcr,fun j q hj=>?_,fun j es' hj=>?_⟩
      ·by_cases hjk:j=k
       ·subst hjk; rw [upd_same] at hj; cases hj
       ·rw [upd_other O _ hjk] at hj; exact hj
      ·rw [lookO_drop] at hj
       split at hj
       ·cases hj
       ·exact hj
    ·cases hes
   ·cases hs
 | fn f cs =>
  simp only [settle,Option.some.injEq,Prod.mk.injEq] at hs
  have hc:CR w c.B (okb c.ok0 c.B O) (.fn f cs) v:=by
   cases h with
   | cr _ _ h=>exact h
   | fn _ _ vs h=>exact CR.ofA h
  exact plain h ⟨v,hc,rfl⟩ hs.1.symm hs.2.symm
 | _=>simp [settle] at hs

theorem run_indexAt {t e:TypeId} (ht:P.underlying t=some (.slice e)) {sz:Nat} (hsz:szOf P e=some sz) (ad:Addr) (len cap:Nat) (n:Int) (h0:0≤n) (h1:n < len) :
  (Instr.indexAt t (.slice (some ad) len cap) (.int .i64 n)).run P w=.ok (.pointer (some (ad.add (n.toNat * sz)))) w:=by
 simp only [szOf,Option.map_eq_some_iff] at hsz
 obtain ⟨i,hi,rfl⟩:=hsz
 simp [Instr.indexAt,asIntOf,run_underlying ht,h0,h1,sizeOf,typeInfo,hi]

theorem out_idxa (hm:MR c O ob w) {x y:Operand} {t e:TypeId} (ho:o.op=.indexAddr t x y) (ht:P.underlying t=some (.slice e)) {sz:Nat} (hsz:szOf P e=some sz) {p:Nat} {es:List DV} {n:Int} {d:DV}
  (hx:VR w c.B (okb c.ok0 c.B O) O (.sl p es) (ρ x)) (hy:VR w c.B (okb c.ok0 c.B O) O (.i n) (ρ y)) (h0:0≤n) (hd:es[n.toNat]?=some d) (hw:d.cells.length=sz):Out P c fr w O ((execOp ρ o).run P w) (.adr d) ob:=by
 have hlt:n.toNat < es.length:=(List.getElem?_eq_some_iff.1 hd).1
 obtain ⟨ad,cap,sz',xs,hv,hc,_,hwid,hok,hblk,_,_,hcell,hcr⟩:=hx.sl'.sl' (by omega)
 have hs':sz'=sz:=by rw [← hw,hwid d (List.mem_of_getElem? hd)]
 subst hs'
 refine Out.same hm (v:=.pointer (some (ad.add (n.toNat * sz')))) ?_ ?_
 ·simp only [execOp,ho,hv,hy.int,Sem.run_bind,run_indexAt ht hsz ad es.length cap n h0 (by omega),Result.andThen_ok]; rfl
 ·have hpart:d.cells=((flat es).drop (n.toNat * sz')).take sz':=by
   apply List.ext_getElem?
   intro j
   rw [List.getElem?_take]
   by_cases hj:j < sz'
   ·rw [if_pos hj,List.getElem?_drop,flat_get hwid hd hj]
   ·rw [if_neg hj,List.getElem?_eq_none (by omega)]
  refine .adr d _ ((xs.drop (n.toNat * sz')).take sz') (by rw [block_add]; exact hok) (by rw [block_add]; exact hblk) (fun j u hu=>?_) ?_
  ·rw [add_add']
   rw [List.getElem?_take] at hu
   split at hu
   ·rw [List.getElem?_drop] at hu; exact hcell _ u hu
   ·cases hu
  ·rw [hpart]; exact (hcr.drop _).take _

theorem out_idxaO (hm:MR c O ob w) {x y:Operand} {t e:TypeId} (ho:o.op=.indexAddr t x y) (ht:P.underlying t=some (.slice e)) {sz:Nat} (hsz:szOf P e=some sz) {k m lo hi:Nat} {es:List DV} {n:Int}
  (hx:VR w c.B (okb c.ok0 c.B O) O (.own k m lo hi) (ρ x)) (hy:VR w c.B (okb c.ok0 c.B O) O (.i n) (ρ y)) (he:elems ob (.own k m lo hi)=some es) (hk:szId k=sz) (h0:0≤n) (h1:n < es.length) :
  Out P c fr w O ((execOp ρ o).run P w) (.oad k m (lo+n.toNat) 0) ob:=by
 simp only [elems] at he
 cases hl:lookO ob k with
 | none=>rw [hl] at he; cases he
 | some es0 =>
  rw [hl] at he
  simp only at he
  split at he
  ·rename_i hcond
   injection he with he
   obtain ⟨hn,hlo,hhi⟩:=hcond
   obtain ⟨p,hO,hp,_,_,hv,hor⟩:=hx.own_cur hm hl hn
   have hlen:es.length=hi - lo:=by rw [← he]; simp; omega
   obtain ⟨A,cp,hv,hc1,hc2,hA,_,_⟩:=hv
   obtain ⟨g,hg,rfl⟩:=hA (by omega)
   have hpsz:p.sz=sz:=by rw [hm.sz k p hO,hk]
   refine Out.same hm (v:=.pointer (some ((⟨g,lo * p.sz,none⟩:Addr).add (n.toNat * sz)))) ?_ ?_
   ·simp only [execOp,ho,hv,hy.int,Sem.run_bind,run_indexAt ht hsz _ (hi - lo) cp n h0 (by omega),Result.andThen_ok]; rfl
   ·rw [add_plain',hpsz,← Nat.add_mul]
    have:=VR.oad (w:=w) (B:=c.B) (ok:=okb c.ok0 c.B O) k m (lo+n.toNat) 0 p g hO hp hg
    rw [hpsz,Nat.add_zero] at this
    exact this
  ·cases he

theorem run_indexAtA {t e:TypeId} {len:Nat} (ht:P.underlying t=some (.array len e)) {sz:Nat} (hsz:szOf P e=some sz) (ad:Addr) (n:Int) (h0:0≤n) (h1:n < len) :
  (Instr.indexAt t (.pointer (some ad)) (.int .i64 n)).run P w=.ok (.pointer (some (ad.add (n.toNat * sz)))) w:=by
 simp only [szOf,Option.map_eq_some_iff] at hsz
 obtain ⟨i,hi,rfl⟩:=hsz
 simp [Instr.indexAt,asIntOf,run_underlying ht,h0,h1,sizeOf,typeInfo,hi,Instr.sureAddr]
theorem out_idxp (hm:MR c O ob w) {x y:Operand} {t e:TypeId} {len:Nat} (ho:o.op=.indexAddr t x y) (ht:P.underlying t=some (.array len e)) {sz:Nat} (hsz:szOf P e=some sz) {k m q r:Nat} {n:Int}
  (hx:VR w c.B (okb c.ok0 c.B O) O (.oad k m q r) (ρ x)) (hy:VR w c.B (okb c.ok0 c.B O) O (.i n) (ρ y)) (h0:0≤n) (h1:n < len):Out P c fr w O ((execOp ρ o).run P w) (.oad k m q (r+n.toNat * sz)) ob:=by
 obtain ⟨ad,hv,h⟩:=hx.oad'
 refine Out.same hm (v:=.pointer (some (ad.add (n.toNat * sz)))) ?_ ?_
 ·simp only [execOp,ho,hv,hy.int,Sem.run_bind,run_indexAtA ht hsz ad n h0 h1,Result.andThen_ok]; rfl
 ·rcases h with ⟨p,g,hO,hn,hg,rfl⟩ | h
  ·rw [add_plain',Nat.add_assoc]
   exact .oad k m q (r+n.toNat * sz) p g hO hn hg
  ·exact .oadS k m q (r+n.toNat * sz) _ h
theorem out_idxpA (hm:MR c O ob w) {x y:Operand} {t e:TypeId} {len:Nat} (ho:o.op=.indexAddr t x y) (ht:P.underlying t=some (.array len e)) {sz:Nat} (hsz:szOf P e=some sz) {n:Int} {d r:DV}
  (hx:VR w c.B (okb c.ok0 c.B O) O (.adr d) (ρ x)) (hy:VR w c.B (okb c.ok0 c.B O) O (.i n) (ρ y)) (h0:0≤n) (h1:n < len) (hp:part d.cells (n.toNat * sz) sz (sz != 1)=some r):Out P c fr w O ((execOp ρ o).run P w) (.adr r) ob:=by
 obtain ⟨ad,xs,hv,hok,hlt,hcell,hcr⟩:=hx.adr'
 refine Out.same hm (v:=.pointer (some (ad.add (n.toNat * sz)))) ?_ ?_
 ·simp only [execOp,ho,hv,hy.int,Sem.run_bind,run_indexAtA ht hsz ad n h0 h1,Result.andThen_ok]; rfl
 ·obtain ⟨h5,_,_⟩:=part_ok hcr hp (fun h=>by simpa using h)
  refine .adr r _ _ (by rw [block_add]; exact hok) (by rw [block_add]; exact hlt) (fun j u hu=>?_) h5
  rw [add_add']
  rw [List.getElem?_take] at hu
  split at hu
  ·rw [List.getElem?_drop] at hu; exact hcell _ u hu
  ·cases hu
theorem run_indexAtQ {t e:TypeId} {len:Nat} (ht:P.underlying t=some (.array len e)) {sz:Nat} (hsz:szOf P e=some sz) (ad:Addr) (n:Nat) (h1:n < len) :
  (Instr.indexAt t (.pointer (some ad)) (.int .u64 n)).run P w=.ok (.pointer (some (ad.add (n * sz)))) w:=by
 simp only [szOf,Option.map_eq_some_iff] at hsz
 obtain ⟨i,hi,rfl⟩:=hsz
 have h0:(0:Int)≤n:=by omega
 have h2:(n:Int) < len:=by omega
 simp [Instr.indexAt,asIntOf,run_underlying ht,h0,h2,sizeOf,typeInfo,hi,Instr.sureAddr,h1]
theorem out_idxpQ (hm:MR c O ob w) {x y:Operand} {t e:TypeId} {len:Nat} (ho:o.op=.indexAddr t x y) (ht:P.underlying t=some (.array len e)) {sz:Nat} (hsz:szOf P e=some sz) {n:Nat} {d r:DV}
  (hx:VR w c.B (okb c.ok0 c.B O) O (.adr d) (ρ x)) (hy:VR w c.B (okb c.ok0 c.B O) O (.q n) (ρ y)) (h1:n < len) (hp:part d.cells (n * sz) sz (sz != 1)=some r):Out P c fr w O ((execOp ρ o).run P w) (.adr r) ob:=by
 obtain ⟨ad,xs,hv,hok,hlt,hcell,hcr⟩:=hx.adr'
 refine Out.same hm (v:=.pointer (some (ad.add (n * sz)))) ?_ ?_
 ·simp only [execOp,ho,hv,hy.quad.1,Sem.run_bind,run_indexAtQ ht hsz ad n h1,Result.andThen_ok]; rfl
 ·obtain ⟨h5,_,_⟩:=part_ok hcr hp (fun h=>by simpa using h)
  refine .adr r _ _ (by rw [block_add]; exact hok) (by rw [block_add]; exact hlt) (fun j u hu=>?_) h5
  rw [add_add']
  rw [List.getElem?_take] at hu
  split at hu
  ·rw [List.getElem?_drop] at hu; exact hcell _ u hu
  ·cases hu
theorem out_mm (hm:MR c O ob w) {x y:Operand} {ts:Array TypeId} {mx:Bool} (ho:o.op=.call { callee:=.builtin (if mx then .max else .min),args:=#[x,y],argTypes:=ts }) {a b:Int}
  (hx:VR w c.B (okb c.ok0 c.B O) O (.i a) (ρ x)) (hy:VR w c.B (okb c.ok0 c.B O) O (.i b) (ρ y)):Out P c fr w O ((execOp ρ o).run P w) (.i (if mx then max a b else min a b)) ob:=by
 refine Out.same hm (v:=.int .i64 (if mx then max a b else min a b)) ?_ (.mkI _)
 cases mx with
 | true =>
  have e:(if b > a then b else a)=max a b:=by split <;> omega
  simp [execOp,ho,resolve,invoke,builtin,Builtin.max_,Builtin.max2,hx.int,hy.int,e]
 | false =>
  have e:(if b < a then b else a)=min a b:=by split <;> omega
  simp [execOp,ho,resolve,invoke,builtin,Builtin.min_,Builtin.min2,hx.int,hy.int,e]

theorem out_idx (hm:MR c O ob w) {x y:Operand} {t:TypeId} (ho:o.op=.index t x y) (ht:P.underlying t=some .string) {l:List UInt8} {n:Int} {b:UInt8}
  (hx:VR w c.B (okb c.ok0 c.B O) O (.s l) (ρ x)) (hy:VR w c.B (okb c.ok0 c.B O) O (.i n) (ρ y)) (h0:0≤n) (hb:l[n.toNat]?=some b):Out P c fr w O ((execOp ρ o).run P w) (.y b.toNat) ob:=by
 have hlt:n.toNat < l.length:=(List.getElem?_eq_some_iff.1 hb).1
 have hs:(ByteArray.mk l.toArray).size=l.length:=by show l.toArray.size=_; simp
 refine Out.same hm (v:=.int .u8 b.toNat) ?_ (.mkY _ (by exact b.toNat_lt))
 have hi:0≤n∧n < ((ByteArray.mk l.toArray).size:Int):=by rw [hs]; omega
 have hget:(ByteArray.mk l.toArray)[n.toNat]'(by omega)=b:=by
  have:l[n.toNat]=b:=(List.getElem?_eq_some_iff.1 hb).2
  rw [← this]
  rfl
 simp only [execOp,ho,hx.str,hy.int,Sem.run_bind,run_index_string w t _ .i64 n ht,dif_pos hi,Result.andThen_ok,hget]
 rfl

/-- An element of an object,cell by cell. -/
theorem OR.elem {B:Nat} {ok:OkT} {p:PO} {es:List DV} (h:OR w B ok p es) {a:Nat} {e:DV} (he:es[a]?=some e) {g:Nat} (hg:p.hv.ownBlock=some g) :
  ∃ xs:List Value,CRs w B ok e.cells xs∧(∀ (j:Nat) (u:Value),xs[j]?=some u→w.cell? ⟨g,a * p.sz+j,none⟩=some u):=by
 obtain ⟨xs,hr,hc⟩:=h.row
 have hpart:e.cells=((flat es).drop (a * p.sz)).take p.sz:=by
  apply List.ext_getElem?
  intro j
  rw [List.getElem?_take]
  by_cases hj:j < p.sz
  ·rw [if_pos hj,List.getElem?_drop,flat_get h.wid he hj]
  ·have:=h.wid e (List.mem_of_getElem? he)
   rw [if_neg hj,List.getElem?_eq_none (by omega)]
 refine ⟨(xs.drop (a * p.sz)).take p.sz,by rw [hpart]; exact (hc.drop _).take _,fun j u hu=>?_⟩
 rw [List.getElem?_take] at hu
 split at hu
 ·rw [List.getElem?_drop] at hu
  have:=hr.cells hg _ u hu
  rw [add_plain'] at this
  simpa using this
 ·cases hu

theorem load_ok {t:TypeId} {sz:Nat} {agg:Bool} (hn:szOf P t=some sz) (hg:aggOf P t=some agg) (hone:agg=false→sz=1) (ad:Addr) {d:DV} {xs:List Value}
  (hcell:∀ (j:Nat) (u:Value),xs[j]?=some u→w.cell? (ad.add j)=some u) (hc:CRs w c.B (okb c.ok0 c.B O) d.cells xs) (h1:agg=true→∃ cs,d=.st cs∧cs.length=sz) (h2:agg=false→d.cells=[d]) :
  ∃ v,(Instr.loadAt t (.pointer (some ad))).run P w=.ok v w∧VR w c.B (okb c.ok0 c.B O) O d v:=by
 cases agg with
 | true =>
  obtain ⟨cs,rfl,hcs⟩:=h1 rfl
  have hl:xs.length=sz:=by rw [hc.1]; exact hcs
  exact ⟨.agg xs.toArray,run_load_agg t sz hg hn ad xs hl hcell,.st _ _ (by simpa [DV.cells] using hc)⟩
 | false =>
  rw [h2 rfl] at hc
  obtain ⟨u,hu,hcr⟩:=hc.get (j:=0) rfl
  exact ⟨u,run_load_one t hg ad u (by simpa [Addr.add] using hcell 0 u hu),.cr _ _ hcr⟩

theorem out_load (hm:MR c O ob w) {x:Operand} {t:TypeId} (ho:o.op=.load t x) {sz:Nat} {agg:Bool} (hn:szOf P t=some sz) (hg:aggOf P t=some agg) (hone:agg=false→sz=1) {d:DV}
  (he:(match d with | .st cs=>if agg && cs.length == sz then some d else none | _=>if agg then none else some d)=some d) (hx:VR w c.B (okb c.ok0 c.B O) O (.adr d) (ρ x)):Out P c fr w O ((execOp ρ o).run P w) d ob:=by
 obtain ⟨ad,xs,hv,_,_,hcell,hc⟩:=hx.adr'
 obtain ⟨v,hr,hvr⟩:=load_ok (c:=c) (O:=O) hn hg hone ad hcell hc (fun ha=>by
  subst ha
  cases d <;> simp at he
  exact ⟨_,rfl,he⟩) (fun ha=>by
  subst ha
  cases d <;> simp at he <;> rfl)
 refine Out.same hm (v:=v) ?_ hvr
 simp only [execOp,ho,hv,Sem.run_bind,hr,Result.andThen_ok]; rfl

theorem out_loadO (hm:MR c O ob w) {x:Operand} {t:TypeId} (ho:o.op=.load t x) {sz:Nat} {agg:Bool} (hn:szOf P t=some sz) (hg:aggOf P t=some agg) (hone:agg=false→sz=1) {k n a q:Nat} {es:List DV} {e d:DV}
  (hx:VR w c.B (okb c.ok0 c.B O) O (.oad k n a q) (ρ x)) (hl:lookO ob k=some es) (hnl:es.length=n) (he:es[a]?=some e) (hp:part e.cells q sz agg=some d):Out P c fr w O ((execOp ρ o).run P w) d ob:=by
 obtain ⟨p,g,hO,hpl,hgb,hv,hor⟩:=hx.oad_cur hm hl hnl
 obtain ⟨xs,hcr,hcell⟩:=hor.elem he hgb
 obtain ⟨h1,h2,h3⟩:=part_ok hcr hp hone
 obtain ⟨v,hr,hvr⟩:=load_ok (c:=c) (O:=O) hn hg hone ⟨g,a * p.sz+q,none⟩ (d:=d) (xs:=(xs.drop q).take sz) (fun j u hu=>by
  rw [List.getElem?_take] at hu
  split at hu
  ·rw [List.getElem?_drop] at hu
   rw [add_plain',Nat.add_assoc]
   exact hcell _ u hu
  ·cases hu) h1 (fun ha=>by
   obtain ⟨cs,rfl⟩:=h2 ha
   subst ha
   unfold part at hp
   simp only [if_true] at hp
   split at hp
   ·injection hp with hp
    injection hp with hp
    exact ⟨cs,rfl,by rw [← hp]; simp; omega⟩
   ·cases hp) h3
 refine Out.same hm (v:=v) ?_ hvr
 simp only [execOp,ho,hv,Sem.run_bind,hr,Result.andThen_ok]; rfl
end
end Go.Lg

namespace Go.Lg
open Go.RowKit
variable [GL]
set_option linter.unusedVariables false

theorem list_over {α:Type} (l:List α) (o s q m:Nat) (vs:List α) (hs:s≤l.length - o) (ho:o≤l.length) (hq:q+vs.length≤s) :
  l.take o++(((l.drop o).take s).take q++vs++((l.drop o).take s).drop (q+vs.length))++l.drop (o+s)=l.take (o+q)++vs++l.drop (o+q+vs.length):=by
 have e1:((l.drop o).take s).take q=(l.drop o).take q:=by rw [List.take_take]; congr 1; omega
 have e2:l.take (o+q)=l.take o++(l.drop o).take q:=by rw [List.take_add]
 have e3:((l.drop o).take s).drop (q+vs.length)++l.drop (o+s)=l.drop (o+q+vs.length):=by
  rw [List.drop_take,List.drop_drop]
  have:l.drop (o+q+vs.length)=(l.drop (o+(q+vs.length))).take (s - (q+vs.length))++(l.drop (o+(q+vs.length))).drop (s - (q+vs.length)):=by
   rw [List.take_append_drop]; congr 1; omega
  rw [this,List.drop_drop]
  congr 2
  omega
 rw [e1,e2,← e3]
 simp only [List.append_assoc]

theorem list_take_over {α:Type} (cur vs:List α) (o N:Nat) (hN:o+vs.length≤N) (hc:N≤cur.length) :
  (cur.take o++vs++cur.drop (o+vs.length)).take N=(cur.take N).take o++vs++(cur.take N).drop (o+vs.length):=by
 have h1:(cur.take o++vs).length=o+vs.length:=by simp; omega
 rw [List.take_append,List.take_of_length_le (by omega),h1,List.take_take,List.drop_take]
 congr 2
 ·congr 1; congr 1; omega

section
variable {P:Program} {c:Cx} {fr:Nat→Bool} {w:World} {O:OM} {ob:OB} {o:Oper} {ρ:Operand→Value}

theorem unpart_ok {B:Nat} {ok:OkT} {e:DV} {cs:List DV} {xs:List Value} (h:CRs w B ok cs xs) (hl:cs.length=e.cells.length):(unpart e cs).cells=cs:=by
 cases e with
 | st as=>rfl
 | _ =>
  simp only [DV.cells,List.length_singleton] at hl
  match cs,hl with
  | [d],_ =>
   obtain ⟨u,_,hc⟩:=h.get (j:=0) rfl
   exact hc.cells.1

theorem out_store (hm:MR c O ob w) {x y:Operand} {t:TypeId} (ho:o.op=.store t x y) {sz:Nat} (hn:szOf P t=some sz) {k n a q:Nat} {d d' e:DV} {ob1:OB} {es:List DV}
  (hx:VR w c.B (okb c.ok0 c.B O) O (.oad k n a q) (ρ x)) (hy:VR w c.B (okb c.ok0 c.B O) O d (ρ y)) (hs:settle ob d=some (d',ob1)) (hl:lookO ob1 k=some es) (hnl:es.length=n) (hds:d'.cells.length=sz)
  (he:es[a]?=some e) (hq:q+sz≤e.cells.length):Out P c fr w O ((execOp ρ o).run P w) .dead (putO ob1 k (es.set a (unpart e (over e.cells q d'.cells)))):=by
 obtain ⟨O1,hm1,ht1,hcr,_,_,_⟩:=settle_ok hm hy hs
 have hx1:=hx.tr ht1 (fun _ h=>h.elim)
 obtain ⟨p,g,hO,hpl,hgb,hv,hor⟩:=hx1.oad_cur hm1 hl hnl
 obtain ⟨xs,hr,hcs⟩:=hor.row
 obtain ⟨hxl,hrest⟩:=hr
 rcases hrest with ⟨hnil,_⟩ | ⟨g',cap,cur,hhv,_,hheap,hnc,hcm,hcsz,htake⟩
 ·rw [hnil] at hgb; simp [Value.ownBlock] at hgb
 ·have hgg:g'=g:=by rw [hhv] at hgb; simpa [Value.ownBlock] using hgb
  subst hgg
  have ha:a < es.length:=(List.getElem?_eq_some_iff.1 he).1
  have hewid:e.cells.length=p.sz:=hor.wid e (List.mem_of_getElem? he)
  have hnews:(ρ y).cells.toList.length=sz:=by rw [hcr.1,hds]
  have hmul:a * p.sz+p.sz≤p.len * p.sz:=by
   rw [← Nat.succ_mul]; exact Nat.mul_le_mul_right _ (by rw [hor.len]; omega)
  have hcurl:p.len * p.sz≤cur.size:=by rw [hcsz]; exact Nat.mul_le_mul_right _ hnc
  have hst:=run_storeCells_at (P:=P) g' (a * p.sz+q) p.ty (ρ y).cells.toList 0 cur w hheap (by omega) hcr.oneCell
  simp only [Nat.add_zero] at hst
  generalize hrow:(cur.toList.take (a * p.sz+q)++(ρ y).cells.toList++cur.toList.drop (a * p.sz+q+(ρ y).cells.toList.length)).toArray=row at hst
  refine ⟨undef,w.setRow g' row,upd O1 k (some p),.inr ⟨?_,rfl⟩,?_⟩
  ·simp only [szOf,Option.map_eq_some_iff] at hn
   obtain ⟨i,hi,rfl⟩:=hn
   have hsize:¬ (ρ y).cells.size≠i.size:=by
    have:(ρ y).cells.size=(ρ y).cells.toList.length:=by simp
    omega
   simp only [execOp,ho,hv,Instr.storeAt,Instr.sureAddr,storeVar,Sem.run_bind,Sem.run_pure,Result.andThen_ok,sizeOf,typeInfo,run_program,hi,hsize,if_false,hst]
  ·have hor':∀ ok:OkT,(∀ b,b < w.heap.size→okb c.ok0 c.B O1 b→ok b)→(∀ (cs:List DV) (xs:List Value),CRs w c.B (okb c.ok0 c.B O1) cs xs→CRs (w.setRow g' row) c.B ok cs xs) →
     OR (w.setRow g' row) c.B ok p (es.set a (unpart e (over e.cells q d'.cells))):=by
    intro ok hok hkeep
    have helem:e.cells=((flat es).drop (a * p.sz)).take p.sz:=by
     apply List.ext_getElem?
     intro j
     rw [List.getElem?_take]
     by_cases hj:j < p.sz
     ·rw [if_pos hj,List.getElem?_drop,flat_get hor.wid he hj]
     ·rw [if_neg hj,List.getElem?_eq_none (by omega)]
    have hfl:=flat_len hor.wid
    have hover:CRs w c.B (okb c.ok0 c.B O1) (over e.cells q d'.cells) (((xs.drop (a * p.sz)).take p.sz).take q++(ρ y).cells.toList++((xs.drop (a * p.sz)).take p.sz).drop (q+(ρ y).cells.toList.length)):=by
     unfold over
     rw [helem]
     refine ((((hcs.drop _).take _).take _).append hcr).append ?_
     rw [hcr.1]
     exact ((hcs.drop _).take _).drop _
    have hol:(over e.cells q d'.cells).length=e.cells.length:=by unfold over; simp; omega
    have hun:=unpart_ok (e:=e) hover hol
    have hwid':∀ z∈es.set a (unpart e (over e.cells q d'.cells)),z.cells.length=p.sz:=by
     intro z hz
     rcases List.mem_or_eq_of_mem_set hz with h | h
     ·exact hor.wid z h
     ·rw [h,hun,hol,hewid]
    refine ⟨by rw [hor.len]; simp,hor.pos,hwid',xs.take (a * p.sz+q)++(ρ y).cells.toList++xs.drop (a * p.sz+q+(ρ y).cells.toList.length),⟨?_,.inr ⟨g',cap,_,hhv,Nat.zero_le _,setRow_heap w g' cur _ p.ty _ hheap,hnc,hcm,?_,?_⟩⟩,?_⟩
    ·simp only [List.length_append,List.length_take,List.length_drop]; omega
    ·have hsz2:(ρ y).cells.size=(ρ y).cells.toList.length:=by simp
     rw [← hrow]; simp only [List.size_toArray,List.length_append,List.length_take,List.length_drop,Array.length_toList]; omega
    ·rw [← hrow,List.toList_toArray,list_take_over _ _ _ _ (by omega) (by simp; omega),htake]
    ·rw [flat_set hor.wid ha _ (by rw [hun,hol,hewid]),hun]
     have e2:List.take (a * p.sz) (flat es)++over e.cells q d'.cells++List.drop (a * p.sz+p.sz) (flat es)=(flat es).take (a * p.sz+q)++d'.cells++(flat es).drop (a * p.sz+q+d'.cells.length):=by
      unfold over
      rw [helem]
      exact list_over (flat es) (a * p.sz) p.sz q 0 d'.cells (by rw [hfl,← hor.len]; omega) (by rw [hfl,← hor.len]; omega) (by omega)
     rw [e2]
     refine hkeep _ _ (((hcs.take _).append hcr).append ?_)
     rw [hcr.1]
     exact hcs.drop _
   obtain ⟨h1,h2⟩:=hm1.turn (k:=k) (p:=p) (p':=p) (es':=es.set a (unpart e (over e.cells q d'.cells))) (w':=w.setRow g' row) hO rfl rfl rfl (by simp)
    (fun b _ hb=>setRow_other w g' b _ (fun e=>hb (by rw [hgb,e]))) (.inl rfl) (.inl rfl) (.inl rfl) rfl hor'
   exact ⟨h1,.dead _,(ht1.trans h2).mono (fun id h=>by rcases h with h | h <;> exact h.elim)⟩
end
end Go.Lg

namespace Go.Lg
open Go.RowKit
variable [GL]
set_option linter.unusedVariables false

theorem szId_mk (d sz i:Nat) (hs:sz < 64) (hi:i < 8):szId (mkId d sz i)=sz:=by unfold szId mkId; omega

theorem run_mapM_list {P:Program} {w:World} {α β:Type} (f:α→Sem β) (g:α→β):∀ (l:List α),(∀ x∈l,(f x).run P w=.ok (g x) w)→(l.mapM f).run P w=.ok (l.map g) w
 | [],_=>by simp
 | x :: l,h=>by
  rw [List.mapM_cons]
  simp only [Sem.run_bind,h x (List.mem_cons_self ..),Result.andThen_ok,run_mapM_list f g l (fun y hy=>h y (List.mem_cons_of_mem _ hy))]
  simp
theorem run_mapM_array {P:Program} {w:World} {α β:Type} (f:α→Sem β) (g:α→β) (l:Array α) (h:∀ x∈l.toList,(f x).run P w=.ok (g x) w):(l.mapM f).run P w=.ok (l.map g) w:=by
 have e:l.mapM f=List.toArray <$> l.toList.mapM f:=by rw [Array.mapM_eq_mapM_toList]
 rw [e,Sem.run_map,run_mapM_list f g l.toList h]
 simp only [Result.andThen_ok]
 rw [← Array.toList_map,Array.toArray_toList]

structure Fresh (c:Cx) (fr:Nat→Bool):Prop where
 a:∀ id,fr id=true→id % 8≠7
 b:∀ r∈c.refs,6≤r.1 % 8
theorem Fresh.ne {c:Cx} {fr:Nat→Bool} (h:Fresh c fr) {id:Nat} (hf:fr id=true):∀ r∈c.refs,r.1 % 8=7→r.1≠id:=fun r hr h7 e=>h.a id hf (by rw [← e]; exact h7)

section
variable {P:Program} {c:Cx} {fr:Nat→Bool} {w:World} {O:OM} {ob:OB} {o:Oper} {ρ:Operand→Value}

theorem elemInfo_some {e:TypeId} {sz:Nat} {zs:List DV} (h:elemInfo P e=some (sz,zs)) :
  ∃ i z,P.info? e=some i∧i.zero=some z∧i.bytes≤65536∧z.cells.size=sz∧i.size=sz∧0 < sz∧sz < 64∧cellsC z.cells.toList=some zs:=by
 unfold elemInfo at h
 split at h
 ·rename_i i hi
  split at h
  ·rename_i z hz
   split at h
   ·rename_i hc
    simp only [Option.map_eq_some_iff,Prod.mk.injEq] at h
    obtain ⟨zs',h1,rfl,rfl⟩:=h
    exact ⟨i,z,hi,hz,hc.1,hc.2.1,rfl,hc.2.2.1,hc.2.2.2,h1⟩
   ·cases h
  ·cases h
 ·cases h
theorem zeroD_some {e:TypeId} {sz:Nat} {d:DV} (h:zeroD P e=some (sz,d)):∃ zs,elemInfo P e=some (sz,zs)∧d.cells=zs:=by
 unfold zeroD at h
 split at h
 ·rename_i n cs he hg
  injection h with h
  simp only [Prod.mk.injEq] at h
  obtain ⟨rfl,rfl⟩:=h
  exact ⟨cs,he,rfl⟩
 ·rename_i n c he hg
  injection h with h
  simp only [Prod.mk.injEq] at h
  obtain ⟨rfl,rfl⟩:=h
  refine ⟨[c],he,?_⟩
  obtain ⟨i,z,_,_,_,_,_,_,_,hz⟩:=elemInfo_some he
  obtain ⟨u,_,hu⟩:=(cellsC_ok default 0 ⟨fun _=>True,fun _ _ _=>True⟩ hz).get (j:=0) rfl
  exact hu.cells.1
 ·cases h

theorem out_newnil (hm:MR c O ob w) (hF:Fresh c fr) (ho:o.op=.assign (.const (.slice none 0 0))) (hρ:∀ v,ρ (.const v)=v) {id:Nat} (hid:fr id=true) (h5:id % 8≠5) (hsz:0 < szId id):Out P c fr w O ((execOp ρ o).run P w) (.own id 0 0 0) (putO ob id []):=by
 obtain ⟨h1,h2⟩:=hm.newNil id (hF.ne hid) (fun h=>absurd h h5) (szId id) 0 hsz rfl
 refine ⟨.slice none 0 0,w,_,.inl ?_,h1,?_,h2.mono (fun j hj=>by rw [hj]; exact hid)⟩
 ·simp only [execOp,ho,hρ]; rfl
 ·exact .own id 0 0 0 _ _ (upd_same _ _ _) rfl (Nat.le_refl _) (Nat.le_refl _) ⟨none,0,rfl,Nat.le_refl _,Nat.zero_le _,fun h=>absurd h (by omega),fun _ _=>rfl,fun _=>⟨0,rfl⟩⟩

theorem out_alloc (hm:MR c O ob w) (hF:Fresh c fr) {e:TypeId} (ho:o.op=.alloc e) {sz:Nat} {z:DV} (hz:zeroD P e=some (sz,z)) {id:Nat} (hid:fr id=true) (h5:id % 8≠5) (hsz:szId id=sz):Out P c fr w O ((execOp ρ o).run P w) (.oad id 1 0 0) (putO ob id [z]):=by
 obtain ⟨zs,he,hzc⟩:=zeroD_some hz
 obtain ⟨i,zv,hi,hzv,hb,hc1,hc2,hpos,h64,hcs⟩:=elemInfo_some he
 have hcr:=cellsC_ok w c.B (okb c.ok0 c.B O) hcs
 obtain ⟨h1,h2⟩:=hm.new id (hF.ne hid) (fun h=>absurd h h5) [z] zv.cells 1 1 sz e zv.cells.toList hsz.symm rfl (Nat.le_refl _) (by simp [maxLen]) hpos (fun x hx=>by simp at hx; subst hx; rw [hzc,← hcr.1]; simpa using hc1) (by omega)
  (List.take_of_length_le (by simp; omega)) (by simp; omega) (by simpa [flat,hzc] using hcr)
 refine ⟨.pointer (some ⟨w.heap.size,0,none⟩),_,_,.inl ?_,h1,?_,h2.mono (fun j hj=>by rw [hj]; exact hid)⟩
 ·simp [execOp,ho,Instr.alloc,zeroValue,typeInfo,hi,hzv,newVar,newRow]
 ·have:=VR.oad (w:=w.alloc (.cells zv.cells e)) (B:=c.B) (ok:=okb c.ok0 c.B (upd O id (some ⟨.slice (some ⟨w.heap.size,0,none⟩) 1 1,1,e,sz⟩))) id 1 0 0 _ w.heap.size (upd_same O id (some ⟨.slice (some ⟨w.heap.size,0,none⟩) 1 1,1,e,sz⟩)) rfl rfl
  simpa using this

theorem out_box (hm:MR c O ob w) (hF:Fresh c fr) {x:Operand} {e:TypeId} (ho:o.op=.box e x) {d d':DV} {ob1:OB} (hx:VR w c.B (okb c.ok0 c.B O) O d (ρ x)) (hs:settle ob d=some (d',ob1)) {id:Nat} (hid:fr id=true) (h5:id % 8≠5)
  (hsz:d'.cells.length=szId id) (hpos:0 < szId id):Out P c fr w O ((execOp ρ o).run P w) (.oad id 1 0 0) (putO ob1 id [d']):=by
 obtain ⟨O1,hm1,ht1,hcr,_,_,_⟩:=settle_ok hm hx hs
 have hl:(ρ x).cells.toList.length=szId id:=by rw [hcr.1,hsz]
 obtain ⟨h1,h2⟩:=hm1.new id (hF.ne hid) (fun h=>absurd h h5) [d'] (ρ x).cells 1 1 (szId id) e (ρ x).cells.toList rfl rfl (Nat.le_refl _) (by simp [maxLen]) hpos (fun z hz=>by simp at hz; subst hz; exact hsz) (by simpa using hl)
  (List.take_of_length_le (by omega)) (by omega) (by simpa [flat] using hcr)
 refine ⟨.pointer (some ⟨w.heap.size,0,none⟩),_,_,.inl ?_,h1,?_,(ht1.trans h2).mono (fun j hj=>by rcases hj with h | h; exact h.elim; rw [h]; exact hid)⟩
 ·simp [execOp,ho,Instr.box,newVar,newRow]
 ·have:=VR.oad (w:=w.alloc (.cells (ρ x).cells e)) (B:=c.B) (ok:=okb c.ok0 c.B (upd O1 id (some ⟨.slice (some ⟨w.heap.size,0,none⟩) 1 1,1,e,szId id⟩))) id 1 0 0 _ w.heap.size (upd_same O1 id (some ⟨.slice (some ⟨w.heap.size,0,none⟩) 1 1,1,e,szId id⟩)) rfl rfl
  simpa using this

theorem CRs_zeros {B:Nat} {ok:OkT} {zs:List DV} {z:Array Value} (h:CRs w B ok zs z.toList) {sz:Nat} (hsz:z.size=sz) (hpos:0 < sz) {d:DV} (hd:d.cells=zs) (n:Nat) (N:Nat) (hN:n * sz≤N) :
  CRs w B ok (flat (List.replicate n d)) ((madeCells z N).toList.take (n * sz)):=by
 have hdl:d.cells.length=sz:=by rw [hd,← h.1]; simpa using hsz
 have hwid:∀ e∈List.replicate n d,e.cells.length=sz:=fun e he=>by rw [List.eq_of_mem_replicate he]; exact hdl
 have hfl:=flat_len hwid
 rw [List.length_replicate] at hfl
 have hsize:(madeCells z N).size=N:=size_madeCells z N
 refine ⟨by rw [List.length_take,hfl]; simp [hsize]; omega,fun j x u hx hu=>?_⟩
 have hj:j < n * sz:=by rw [← hfl]; exact (List.getElem?_eq_some_iff.1 hx).1
 have hdiv:j / sz < n:=Nat.div_lt_of_lt_mul (by rw [Nat.mul_comm]; exact hj)
 have hmod:j % sz < sz:=Nat.mod_lt _ hpos
 have h1:=flat_get hwid (i:=j / sz) (e:=d) (by simp [hdiv]) hmod
 rw [show j / sz * sz+j % sz=j by rw [Nat.mul_comm]; exact Nat.div_add_mod j sz] at h1
 rw [h1,hd] at hx
 rw [List.getElem?_take,if_pos hj] at hu
 have h2:(madeCells z N).toList[j]?=some (z[j % sz]!):=by
  simp [madeCells,hsz,show j < N by omega]
 rw [h2] at hu
 injection hu with hu
 refine h.2 (j % sz) x u hx ?_
 rw [← hu]
 have:j % sz < z.size:=by omega
 simp [this]

theorem out_make (hm:MR c O ob w) (hF:Fresh c fr) {x y:Operand} {t e:TypeId} (ho:o.op=.makeSlice t x y) (ht:P.underlying t=some (.slice e)) {sz:Nat} {z:DV} (hz:zeroD P e=some (sz,z)) {id:Nat} (hid:fr id=true) (h5:id % 8≠5) (hsz:szId id=sz) {n k:Int}
  (hx:VR w c.B (okb c.ok0 c.B O) O (.i n) (ρ x)) (hy:VR w c.B (okb c.ok0 c.B O) O (.i k) (ρ y)) (h0:0≤n) (hnk:n≤k) (hk:k≤bound) :
  Out P c fr w O ((execOp ρ o).run P w) (.own id n.toNat 0 n.toNat) (putO ob id (List.replicate n.toNat z)):=by
 obtain ⟨zs,he,hzc⟩:=zeroD_some hz
 obtain ⟨i,zv,hi,hzv,hb,hc1,hc2,hpos,h64,hcs⟩:=elemInfo_some he
 have hcr:=cellsC_ok w c.B (okb c.ok0 c.B O) hcs
 have hdl:z.cells.length=sz:=by rw [hzc,← hcr.1]; simpa using hc1
 have hk':k≤1073741824:=hk
 have hr:=run_make (P:=P) w t e i zv ht hi hzv .i64 .i64 n k h0 hnk (by
  have h1:(i.bytes:Int)≤65536:=by omega
  have h2:(i.bytes:Int) * k≤65536 * 1073741824:=Int.mul_le_mul h1 hk' (by omega) (by omega)
  omega) (by omega)
 have hmul:n.toNat * sz≤k.toNat * sz:=Nat.mul_le_mul_right _ (by omega)
 obtain ⟨h1,h2⟩:=hm.new id (hF.ne hid) (fun h=>absurd h h5) (List.replicate n.toNat z) (madeCells zv.cells (k.toNat * i.size)) n.toNat k.toNat sz e _ hsz.symm (by simp) (by omega) (by simp [maxLen]; omega) hpos
  (fun q hq=>by rw [List.eq_of_mem_replicate hq]; exact hdl) (by rw [size_madeCells,hc2]) rfl (by rw [List.length_take,Array.length_toList,size_madeCells,hc2]; exact Nat.min_eq_left hmul) (CRs_zeros hcr hc1 hpos hzc n.toNat _ (by rw [hc2]; exact hmul))
 refine ⟨.slice (some ⟨w.heap.size,0,none⟩) n.toNat k.toNat,_,_,.inl ?_,h1,?_,h2.mono (fun j hj=>by rw [hj]; exact hid)⟩
 ·simp only [execOp,ho,hx.int,hy.int,Sem.run_bind,hr,Result.andThen_ok]; rfl
 ·refine .own id n.toNat 0 n.toNat _ _ (upd_same _ _ _) rfl (Nat.zero_le _) (Nat.le_refl _) ⟨_,k.toNat,rfl,by omega,by simp [maxLen]; omega,fun h=>⟨_,rfl,by simp⟩,fun _ _=>rfl,fun _=>⟨_,rfl⟩⟩

theorem settleL_ok (ht0:True):∀ {xs:List DV} {vs:List Value} {ds:List DV} {ob ob':OB} {O:OM},MR c O ob w→vs.length=xs.length→(∀ (j:Nat) (d:DV) (v:Value),xs[j]?=some d→vs[j]?=some v→VR w c.B (okb c.ok0 c.B O) O d v) →
  settleL ob xs=some (ds,ob')→∃ O',MR c O' ob' w∧Tr c.ok0 c.B (fun _=>False) w O w O'∧ds.length=vs.length∧∀ (j:Nat) (d:DV) (v:Value),ds[j]?=some d→vs[j]?=some v→CRs w c.B (okb c.ok0 c.B O') d.cells v.cells.toList∧((∃ cs,d=.st cs)∨CR w c.B (okb c.ok0 c.B O') d v)
 | [],[],ds,ob,ob',O,hm,_,_,hs=>by
  simp only [settleL,Option.some.injEq,Prod.mk.injEq] at hs
  obtain ⟨rfl,rfl⟩:=hs
  exact ⟨O,hm,Tr.refl _ _ _ _ _,rfl,fun j d v h=>by simp at h⟩
 | [],_ :: _,_,_,_,_,_,hl,_,_=>by simp at hl
 | _ :: _,[],_,_,_,_,_,hl,_,_=>by simp at hl
 | x :: xs,v :: vs,ds,ob,ob',O,hm,hl,h,hs=>by
  simp only [settleL] at hs
  cases h1:settle ob x with
  | none=>rw [h1] at hs; cases hs
  | some r1 =>
   obtain ⟨d1,ob1⟩:=r1
   rw [h1] at hs
   simp only at hs
   cases h2:settleL ob1 xs with
   | none=>rw [h2] at hs; cases hs
   | some r2 =>
    obtain ⟨ds2,ob2⟩:=r2
    rw [h2] at hs
    injection hs with hs
    simp only [Prod.mk.injEq] at hs
    obtain ⟨rfl,rfl⟩:=hs
    obtain ⟨O1,hm1,ht1,hc1,hs1,_,_⟩:=settle_ok hm (h 0 x v rfl rfl) h1
    obtain ⟨O2,hm2,ht2,hl2,hc2⟩:=settleL_ok ht0 hm1 (by simpa using hl) (fun j d u hd hu=>(h (j+1) d u (by simpa using hd) (by simpa using hu)).tr ht1 (fun _ h=>h.elim)) h2
    refine ⟨O2,hm2,(ht1.trans ht2).mono (fun _ h=>by rcases h with h | h <;> exact h),by simp [hl2],fun j d u hd hu=>?_⟩
    cases j with
    | zero =>
     simp at hd hu
     subst hd; subst hu
     refine ⟨hc1.tr ht2,?_⟩
     rcases hs1 with hs1 | hs1
     ·exact .inl hs1
     ·exact .inr (hs1.tr ht2)
    | succ j=>simp at hd hu; exact hc2 j d u hd hu
end
end Go.Lg

namespace Go.Lg
open Go.RowKit
variable [GL]
set_option linter.unusedVariables false

theorem foldl_set (off:Nat):∀ (vs:List Value) (k:Nat) (cells:Array Value),off+k+vs.length≤cells.size →
  ((vs.zipIdx k).foldl (fun (cs:Array Value) (p:Value×Nat)=>cs.setIfInBounds (off+p.2) p.1) cells).toList=cells.toList.take (off+k)++vs++cells.toList.drop (off+k+vs.length)
 | [],k,cells,_=>by simp
 | v :: vs,k,cells,h=>by
  simp only [List.length_cons] at h
  rw [List.zipIdx_cons,List.foldl_cons,foldl_set off vs (k+1) _ (by simp; omega)]
  simp only [Array.toList_setIfInBounds,List.length_cons]
  have hlt:off+k < cells.toList.length:=by simp; omega
  rw [List.set_eq_take_append_cons_drop,if_pos hlt]
  have e1:(cells.toList.take (off+k)++v :: cells.toList.drop (off+k+1)).take (off+(k+1))=cells.toList.take (off+k)++[v]:=by
   rw [List.take_append,List.take_of_length_le (by simp; omega)]
   have:off+(k+1) - (cells.toList.take (off+k)).length=1:=by simp; omega
   rw [this]; simp
  have e2:(cells.toList.take (off+k)++v :: cells.toList.drop (off+k+1)).drop (off+(k+1)+vs.length)=cells.toList.drop (off+k+(vs.length+1)):=by
   rw [List.drop_append,List.drop_of_length_le (by simp; omega)]
   have:off+(k+1)+vs.length - (cells.toList.take (off+k)).length=vs.length+1:=by simp; omega
   rw [this,List.drop_succ_cons,List.drop_drop]
   simp only [List.nil_append]
   congr 1
   omega
  rw [e1,e2]
  simp

section
variable {w:World} {B:Nat} {ok:OkT}
theorem fill_step {cells:Array Value} {cs:List DV} (h:CRs w B ok cs cells.toList) {d:DV} {v:Value} (hd:CRs w B ok d.cells v.cells.toList) (off:Nat) (hl:off+d.cells.length≤cs.length) :
  CRs w B ok (over cs off d.cells) (v.cells.zipIdx.foldl (fun (cs:Array Value) (p:Value×Nat)=>cs.setIfInBounds (off+p.2) p.1) cells).toList:=by
 have h1:v.cells.toList.length=d.cells.length:=hd.1
 have h2:cells.toList.length=cs.length:=h.1
 have h2':cells.size=cs.length:=by simpa using h2
 have e:(v.cells.zipIdx.foldl (fun (cs:Array Value) (p:Value×Nat)=>cs.setIfInBounds (off+p.2) p.1) cells)=(v.cells.toList.zipIdx 0).foldl (fun (cs:Array Value) (p:Value×Nat)=>cs.setIfInBounds (off+p.2) p.1) cells:=by
  rw [← Array.foldl_toList,Array.toList_zipIdx]
 rw [e,foldl_set off v.cells.toList 0 cells (by omega)]
 simp only [Nat.add_zero]
 unfold over
 refine ((h.take off).append hd).append ?_
 rw [h1]
 exact h.drop _

theorem fill_ok (place:Nat→Option (Nat×Nat)):∀ {parts:List (Nat×Value)} {ps:List (Nat×Nat)} {ds cs cs':List DV} {cells:Array Value},CRs w B ok cs cells.toList →
  parts.length=ps.length→(∀ (j i off sz:Nat) (v:Value),parts[j]?=some (i,v)→ps[j]?=some (off,sz)→place i=some (off,sz)) →
  (∀ (j:Nat) (d:DV) (v:Nat×Value),ds[j]?=some d→parts[j]?=some v→CRs w B ok d.cells v.2.cells.toList)→fillP cs ps ds=some cs' →
  ∃ cells',Instr.fill place cells parts=some cells'∧CRs w B ok cs' cells'.toList
 | [],[],[],cs,cs',cells,h,_,_,_,hf=>by
  simp only [fillP,Option.some.injEq] at hf
  subst hf
  exact ⟨cells,rfl,h⟩
 | [],[],_ :: _,_,_,_,_,_,_,_,hf=>by simp [fillP] at hf
 | [],_ :: _,_,_,_,_,_,hl,_,_,_=>by simp at hl
 | _ :: _,[],_,_,_,_,_,hl,_,_,_=>by simp at hl
 | _ :: _,_ :: _,[],_,_,_,_,_,_,_,hf=>by simp [fillP] at hf
 | (i,v) :: parts,(off,sz) :: ps,d :: ds,cs,cs',cells,h,hl,hp,hd,hf=>by
  simp only [fillP] at hf
  split at hf
  ·rename_i hc
   have hd0:=hd 0 d (i,v) rfl rfl
   have h1:v.cells.toList.length=d.cells.length:=hd0.1
   have h1':v.cells.size=sz:=by rw [← hc.1,← h1]; simp
   have h2:cells.size=cs.length:=by have:=h.1; simpa using this
   have hstep:=fill_step h hd0 off (by omega)
   obtain ⟨cells',hr,hcr⟩:=fill_ok place hstep (by simpa using hl) (fun j i' off' sz' v' h3 h4=>hp (j+1) i' off' sz' v' (by simpa using h3) (by simpa using h4)) (fun j d' v' h3 h4=>hd (j+1) d' v' (by simpa using h3) (by simpa using h4)) hf
   refine ⟨cells',?_,hcr⟩
   rw [Instr.fill,hp 0 i off sz v rfl rfl]
   simp only
   rw [if_neg (by simp only [Bool.or_eq_true,decide_eq_true_eq]; omega)]
   exact hr
  ·cases hf

theorem fillE_ok {sz:Nat} (hpos:0 < sz):∀ {parts:List (Nat×Value)} {ds es es':List DV} {cells:Array Value},(∀ e∈es,e.cells.length=sz)→CRs w B ok (flat es) cells.toList →
  (∀ (j:Nat) (d:DV) (v:Nat×Value),ds[j]?=some d→parts[j]?=some v→CRs w B ok d.cells v.2.cells.toList∧((∃ cs,d=.st cs)∨d.cells=[d]))→fillE sz es (parts.map (·.1)) ds=some es' →
  ∃ cells',Instr.fill (fun i=>some (i * sz,sz)) cells parts=some cells'∧CRs w B ok (flat es') cells'.toList∧(∀ e∈es',e.cells.length=sz)∧es'.length=es.length
 | [],[],es,es',cells,hw,h,_,hf=>by
  simp only [List.map_nil,fillE,Option.some.injEq] at hf
  subst hf
  exact ⟨cells,rfl,h,hw,rfl⟩
 | [],_ :: _,_,_,_,_,_,_,hf=>by simp [fillE] at hf
 | _ :: _,[],_,_,_,_,_,_,hf=>by simp [fillE] at hf
 | (i,v) :: parts,d :: ds,es,es',cells,hw,h,hd,hf=>by
  simp only [List.map_cons,fillE] at hf
  split at hf
  ·rename_i hc
   obtain ⟨hd0,_⟩:=hd 0 d (i,v) rfl rfl
   have h1:v.cells.toList.length=d.cells.length:=hd0.1
   have h1':v.cells.size=sz:=by rw [← hc.2,← h1]; simp
   have h2:cells.size=(flat es).length:=by have:=h.1; simpa using this
   have hfl:=flat_len hw
   have hmul:i * sz+sz≤es.length * sz:=by rw [← Nat.succ_mul]; exact Nat.mul_le_mul_right _ hc.1
   have hstep:=fill_step h hd0 (i * sz) (by omega)
   have hset:flat (es.set i d)=over (flat es) (i * sz) d.cells:=by rw [flat_set hw hc.1 d hc.2]; unfold over; rw [hc.2]
   rw [← hset] at hstep
   have hw':∀ e∈es.set i d,e.cells.length=sz:=fun e he=>by
    rcases List.mem_or_eq_of_mem_set he with h | h
    ·exact hw e h
    ·rw [h]; exact hc.2
   obtain ⟨cells',hr,hcr,hw2,hl2⟩:=fillE_ok hpos hw' hstep (fun j d' v' h3 h4=>hd (j+1) d' v' (by simpa using h3) (by simpa using h4)) hf
   refine ⟨cells',?_,hcr,hw2,by rw [hl2]; simp⟩
   rw [Instr.fill]
   simp only
   rw [if_neg (by simp only [Bool.or_eq_true,decide_eq_true_eq]; omega)]
   exact hr
  ·cases hf
end

section
variable {P:Program} {c:Cx} {fr:Nat→Bool} {w:World} {O:OM} {ob:OB} {o:Oper} {ρ:Operand→Value}

def fieldsOf (P:Program) (t:TypeId):List Nat→Option (List (Nat×Nat))
 | []=>some []
 | i :: is=>match fieldOf P t i with
  | some (off,sz,_)=>match fieldsOf P t is with
   | some ps=>some ((off,sz) :: ps)
   | none=>none
  | none=>none
theorem fieldsOf_get {t:TypeId}:∀ {is:List Nat} {ps:List (Nat×Nat)},fieldsOf P t is=some ps→ps.length=is.length∧∀ (j i:Nat) (p:Nat×Nat),is[j]?=some i→ps[j]?=some p→∃ g,fieldOf P t i=some (p.1,p.2,g)
 | [],ps,h=>by simp only [fieldsOf,Option.some.injEq] at h; subst h; exact ⟨rfl,by simp⟩
 | i :: is,ps,h=>by
  simp only [fieldsOf] at h
  split at h
  ·rename_i off sz g hf
   split at h
   ·rename_i ps' hps
    injection h with h
    subst h
    obtain ⟨h1,h2⟩:=fieldsOf_get hps
    refine ⟨by simp [h1],fun j i' p hi hp=>?_⟩
    cases j with
    | zero=>simp at hi hp; subst hi; subst hp; exact ⟨g,hf⟩
    | succ j=>simp at hi hp; exact h2 j i' p hi hp
   ·cases h
  ·cases h

def fieldSizes (P:Program) (t:TypeId):Bool:=match P.underlying t with
 | some (.struct fs)=>fs.toList.all fun f=>(P.info? f.type).isSome
 | _=>false

theorem out_build (hm:MR c O ob w) {t:TypeId} {parts:Array (Nat×Operand)} (ho:o.op=.build t parts) {sz:Nat} {zs:List DV} (hz:elemInfo P t=some (sz,zs)) (hfs:fieldSizes P t=true) {ps:List (Nat×Nat)} (hps:fieldsOf P t (parts.toList.map (·.1))=some ps)
  {xs ds cs:List DV} {ob':OB} (hxl:xs.length=parts.size) (hx:∀ (j:Nat) (d:DV) (q:Nat×Operand),xs[j]?=some d→parts.toList[j]?=some q→VR w c.B (okb c.ok0 c.B O) O d (ρ q.2)) (hs:settleL ob xs=some (ds,ob')) (hf:fillP zs ps ds=some cs) :
  Out P c fr w O ((execOp ρ o).run P w) (.st cs) ob':=by
 obtain ⟨i,zv,hi,hzv,hb,hc1,hc2,hpos,h64,hcs⟩:=elemInfo_some hz
 obtain ⟨O1,hm1,ht1,hdl,hds⟩:=settleL_ok trivial (vs:=parts.toList.map fun q=>ρ q.2) hm (by simp [hxl]) (fun j d v hd hv=>by
  rw [List.getElem?_map,Option.map_eq_some_iff] at hv
  obtain ⟨q,hq,rfl⟩:=hv
  exact hx j d q hd hq) hs
 have hcr:=cellsC_ok w c.B (okb c.ok0 c.B O1) hcs
 obtain ⟨hpl,hpg⟩:=fieldsOf_get hps
 unfold fieldSizes at hfs
 split at hfs
 ·rename_i fs hu
  have hplaces:(fs.mapM fun (f:Field)=>(do pure (f.offset,← sizeOf f.type):Sem (Nat×Nat))).run P w=.ok (fs.map fun f=>(f.offset,((P.info? f.type).map (·.size)).getD 0)) w:=by
   refine run_mapM_array _ _ fs (fun f hf=>?_)
   have:=(List.all_eq_true.1 hfs) f hf
   obtain ⟨j,hj⟩:=Option.isSome_iff_exists.1 this
   simp [sizeOf,typeInfo,hj]
  obtain ⟨cells',hr,hcr'⟩:=fill_ok (w:=w) (B:=c.B) (ok:=okb c.ok0 c.B O1) (fun k=>(fs.map fun f=>(f.offset,((P.info? f.type).map (·.size)).getD 0))[k]?) (parts:=parts.toList.map fun q=>(q.1,ρ q.2)) (ps:=ps) (ds:=ds) hcr (by simp [hpl])
   (fun j k off s v h1 h2=>by
    rw [List.getElem?_map,Option.map_eq_some_iff] at h1
    obtain ⟨q,hq,he⟩:=h1
    simp only [Prod.mk.injEq] at he
    obtain ⟨rfl,rfl⟩:=he
    obtain ⟨g,hg⟩:=hpg j q.1 (off,s) (by simp [hq]) h2
    unfold fieldOf at hg
    rw [hu] at hg
    simp only at hg
    split at hg
    ·rename_i x hx
     split at hg
     ·rename_i n g' hn hg'
      split at hg
      ·injection hg with hg
       simp only [Prod.mk.injEq] at hg
       obtain ⟨rfl,rfl,_⟩:=hg
       simp only [szOf] at hn
       simp [hx,hn]
      ·cases hg
     ·cases hg
    ·cases hg)
   (fun j d v h1 h2=>by
    rw [List.getElem?_map,Option.map_eq_some_iff] at h2
    obtain ⟨q,hq,rfl⟩:=h2
    exact (hds j d (ρ q.2) h1 (by simp [hq])).1) hf
  refine ⟨.agg cells',w,O1,.inl ?_,hm1,.st _ _ hcr',ht1.mono (fun _ h=>h.elim)⟩
  have e:(parts.map fun x=>(x.1,ρ x.2)).toList=parts.toList.map fun q=>(q.1,ρ q.2):=by simp
  simp only [execOp,ho,Instr.build,Sem.run_bind,zeroValue,typeInfo,run_program,hi,hzv,Sem.run_pure,Result.andThen_ok,run_underlying hu,hplaces,e,hr]
 ·cases hfs

theorem view_full {p:PO} {e:TypeId} {n:Nat} {xs:List Value} (h:w.ownsRow 0 e p.sz p.hv n xs) (hp:p.len=n):view p 0 n p.hv:=by
 rcases h.2 with ⟨hv,h0⟩ | ⟨g,cap,cur,hv,_,_,h1,h2,_⟩
 ·subst h0
  rw [hv]
  exact ⟨none,0,rfl,Nat.le_refl _,Nat.zero_le _,fun h=>absurd h (by omega),fun _ _=>hv.symm,fun _=>⟨0,hv⟩⟩
 ·refine ⟨some ⟨g,0,none⟩,cap,by rw [hv]; rfl,h1,h2,fun _=>⟨g,by rw [hv]; rfl,by simp⟩,fun _ _=>rfl,fun _=>⟨n,hv⟩⟩

/-- A row that grows in its cell,as an object. -/
theorem VR.cel_own (hm:MR c O ob w) {k n:Nat} {v:Value} {es:List DV} (h:VR w c.B (okb c.ok0 c.B O) O (.cel k n) v) (hl:lookO ob k=some es) (hn:es.length=n):k % 8=5∧VR w c.B (okb c.ok0 c.B O) O (.own k n 0 n) v:=by
 cases h with
 | cr _ _ h =>
  cases h with
  | cel _ _ A m cap hmx h =>
   obtain ⟨h5,p,hO,hc⟩:=h
   have ho:=hm.obj k p es hO hl
   have hp:p.len=n:=by rw [ho.len,hn]
   rcases hc with hc | ⟨_,hc⟩
   ·omega
   ·obtain ⟨xs,hr,_⟩:=ho.row
    refine ⟨h5,.own k n 0 n p _ hO hp (Nat.zero_le _) (Nat.le_refl _) ?_⟩
    rw [← hp,hc]
    exact view_full hr rfl
theorem VR.own_cel (hm:MR c O ob w) {k n:Nat} {v:Value} {es:List DV} (h:VR w c.B (okb c.ok0 c.B O) O (.own k n 0 n) v) (hl:lookO ob k=some es) (hn:es.length=n) (h5:k % 8=5):VR w c.B (okb c.ok0 c.B O) O (.cel k n) v:=by
 obtain ⟨p,hO,hp,_,_,hvw,hor⟩:=h.own_cur hm hl hn
 obtain ⟨A,c0,hv,_,hmx,_,hfull,_⟩:=hvw
 have e:=hfull rfl hp.symm
 subst hv
 exact .cr _ _ (.cel k n A _ c0 hmx ⟨h5,p,hO,.inr ⟨hp,e⟩⟩)
theorem out_bslice (hm:MR c O ob w) (hF:Fresh c fr) {t e:TypeId} {len:Nat} {parts:Array (Nat×Operand)} (ho:o.op=.buildSlice t len parts) (ht:P.underlying t=some (.slice e)) {sz:Nat} {z:DV} (hz:zeroD P e=some (sz,z)) (hlen:len * sz≤65536)
  {id:Nat} (hid:fr id=true) (hsz:szId id=sz) {xs ds es:List DV} {ob1:OB} (hxl:xs.length=parts.size) (hx:∀ (j:Nat) (d:DV) (q:Nat×Operand),xs[j]?=some d→parts.toList[j]?=some q→VR w c.B (okb c.ok0 c.B O) O d (ρ q.2)) (hs:settleL ob xs=some (ds,ob1))
  (hf:fillE sz (List.replicate len z) (parts.toList.map (·.1)) ds=some es) (h5:id % 8=5→lookO ob1 id=none):Out P c fr w O ((execOp ρ o).run P w) (if id % 8=5 then .cel id len else .own id len 0 len) (putO ob1 id es):=by
 obtain ⟨zs,he,hzc⟩:=zeroD_some hz
 obtain ⟨i,zv,hi,hzv,hb,hc1,hc2,hpos,h64,hcs⟩:=elemInfo_some he
 obtain ⟨O1,hm1,ht1,hdl,hds⟩:=settleL_ok trivial (vs:=parts.toList.map fun q=>ρ q.2) hm (by simp [hxl]) (fun j d v hd hv=>by
  rw [List.getElem?_map,Option.map_eq_some_iff] at hv
  obtain ⟨q,hq,rfl⟩:=hv
  exact hx j d q hd hq) hs
 have hcr:=cellsC_ok w c.B (okb c.ok0 c.B O1) hcs
 have hdl':z.cells.length=sz:=by rw [hzc,← hcr.1]; simpa using hc1
 have hzer:=CRs_zeros hcr hc1 hpos hzc len (len * sz) (Nat.le_refl _)
 rw [List.take_of_length_le (by simp [size_madeCells])] at hzer
 obtain ⟨cells',hr,hcr',hw',hl'⟩:=fillE_ok hpos (parts:=parts.toList.map fun q=>(q.1,ρ q.2)) (fun q hq=>by rw [List.eq_of_mem_replicate hq]; exact hdl') hzer (fun j d v h1 h2=>by
  rw [List.getElem?_map,Option.map_eq_some_iff] at h2
  obtain ⟨q,hq,rfl⟩:=h2
  obtain ⟨h3,h4⟩:=hds j d (ρ q.2) h1 (by simp [hq])
  refine ⟨h3,?_⟩
  rcases h4 with h4 | h4
  ·exact .inl h4
  ·exact .inr h4.cells.1) (by simpa [Function.comp_def] using hf)
 rw [List.length_replicate] at hl'
 have hfl:=flat_len hw'
 have hcl:cells'.size=len * sz:=by have:=hcr'.1; rw [hfl,hl'] at this; simpa using this
 obtain ⟨h1,h2⟩:=hm1.new id (hF.ne hid) (fun h=>(hm1.dom id).2 (h5 h)) es cells' len len sz e cells'.toList hsz.symm hl' (Nat.le_refl _) (by have:len≤len * sz:=Nat.le_mul_of_pos_right _ hpos; simp [maxLen]; omega) hpos hw' hcl (List.take_of_length_le (by simp; omega)) (by simp; omega) hcr'
 refine ⟨.slice (some ⟨w.heap.size,0,none⟩) len len,_,_,.inl ?_,h1,?_,(ht1.trans h2).mono (fun j hj=>by rcases hj with h | h; exact h.elim; rw [h]; exact hid)⟩
 ·have e1:(parts.map fun x=>(x.1,ρ x.2)).toList=parts.toList.map fun q=>(q.1,ρ q.2):=by simp
  have hbig:¬ (len * i.size > 2 ^ 24):=by rw [hc2]; omega
  simp only [execOp,ho,Instr.buildSlice,Sem.run_bind,run_underlying ht,Result.andThen_ok,sizeOf,typeInfo,run_program,hi,Sem.run_pure,hbig,if_false,e1]
  rw [hc2]
  by_cases h0:len * sz=0
  ·have hm0:Array.map (fun x=>(#[]:Array Value)[x % (#[]:Array Value).size]!) (Array.range (len * sz))=madeCells zv.cells (len * sz):=by simp [h0,madeCells]
   rw [if_pos h0]
   simp only [Sem.run_bind,Sem.run_pure,Result.andThen_ok,hm0,hr]
   simp [newRow]
  ·have hm0:Array.map (fun x=>zv.cells[x % zv.cells.size]!) (Array.range (len * sz))=madeCells zv.cells (len * sz):=rfl
   rw [if_neg h0]
   simp only [Sem.run_bind,Sem.run_pure,Result.andThen_ok,zeroValue,typeInfo,run_program,hi,hzv,hm0,hr]
   simp [newRow]
 ·split
  ·rename_i h
   refine VR.own_cel h1 (es:=es) ?_ (by rw [lookO_put,if_pos rfl]) hl' h
   exact .own id len 0 len _ _ (upd_same _ _ _) rfl (Nat.zero_le _) (Nat.le_refl _) ⟨_,len,rfl,by omega,by have:len≤len * sz:=Nat.le_mul_of_pos_right _ hpos; simp [maxLen]; omega,fun h=>⟨_,rfl,by simp⟩,fun _ _=>rfl,fun _=>⟨_,rfl⟩⟩
  ·exact .own id len 0 len _ _ (upd_same _ _ _) rfl (Nat.zero_le _) (Nat.le_refl _) ⟨_,len,rfl,by omega,by have:len≤len * sz:=Nat.le_mul_of_pos_right _ hpos; simp [maxLen]; omega,fun h=>⟨_,rfl,by simp⟩,fun _ _=>rfl,fun _=>⟨_,rfl⟩⟩
end
end Go.Lg

namespace Go.Lg
open Go.RowKit
variable [GL]
set_option linter.unusedVariables false

section
variable {P:Program} {c:Cx} {fr:Nat→Bool} {w:World} {O:OM} {ob ob':OB} {o:Oper} {ρ:Operand→Value}

theorem MR.congr (h:MR c O ob w) (he:∀ k,lookO ob' k=lookO ob k):MR c O ob' w :=
 ⟨h.os,h.tape,h.output,h.size,h.frame,fun k=>by rw [he]; exact h.dom k,fun k p es h1 h2=>h.obj k p es h1 (by rw [← he]; exact h2),h.inj,h.base,h.sz,h.refs,h.glob⟩

/-- What can be read of a slice,whose ever it is. -/
theorem elems_ok (hm:MR c O ob w) {d:DV} {v:Value} {es:List DV} (h:VR w c.B (okb c.ok0 c.B O) O d v) (he:elems ob d=some es) :
  ∃ A cx,v=.slice A es.length cx∧(0 < es.length→∃ ad xs,A=some ad∧(∀ (j:Nat) (u:Value),xs[j]?=some u→w.cell? (ad.add j)=some u)∧CRs w c.B (okb c.ok0 c.B O) (flat es) xs):=by
 cases d with
 | sl p l =>
  simp only [elems,Option.some.injEq] at he
  subst he
  by_cases h0:0 < l.length
  ·obtain ⟨ad,cap,sz,xs,hv,_,_,_,_,_,_,_,hcell,hcr⟩:=h.sl'.sl' h0
   exact ⟨some ad,cap,hv,fun _=>⟨ad,xs,rfl,hcell,hcr⟩⟩
  ·obtain ⟨A,cx,hv⟩:=(h.slice_).1 p l rfl
   exact ⟨A,cx,hv,fun h1=>absurd h1 h0⟩
 | nil =>
  simp only [elems,Option.some.injEq] at he
  subst he
  exact ⟨none,0,(h.slice_).2.2 rfl,fun h1=>absurd h1 (by simp)⟩
 | own k n lo hi =>
  simp only [elems] at he
  cases hl:lookO ob k with
  | none=>rw [hl] at he; cases he
  | some es0 =>
   rw [hl] at he
   simp only at he
   split at he
   ·rename_i hcond
    injection he with he
    obtain ⟨hn,hlo,hhi⟩:=hcond
    obtain ⟨p,hO,hp,_,_,hv,hor⟩:=h.own_cur hm hl hn
    have hlen:es.length=hi - lo:=by rw [← he]; simp; omega
    obtain ⟨A,cp,hv,hc1,hc2,hA,_,_⟩:=hv
    refine ⟨A,cp,by rw [hlen]; exact hv,fun h0=>?_⟩
    obtain ⟨g,hg,rfl⟩:=hA (by omega)
    obtain ⟨xs,hr,hcs⟩:=hor.row
    have hwid:∀ e∈es0.take hi,e.cells.length=p.sz:=fun e he=>hor.wid e (List.mem_of_mem_take he)
    have hfl:flat es=((flat es0).take (hi * p.sz)).drop (lo * p.sz):=by rw [← he,flat_drop hwid,flat_take hor.wid]
    refine ⟨_,(xs.take (hi * p.sz)).drop (lo * p.sz),rfl,fun j u hu=>?_,by rw [hfl]; exact (hcs.take _).drop _⟩
    rw [List.getElem?_drop,List.getElem?_take] at hu
    split at hu
    ·have:=hr.cells hg (lo * p.sz+j) u hu
     rw [add_plain'] at this ⊢
     simpa using this
    ·cases hu
   ·cases he
 | _=>simp [elems] at he

theorem run_append_none {t e:TypeId} {i:TypeInfo} (ht:P.underlying t=some (.slice e)) (hi:P.info? e=some i) (base:Option Addr) (n cap:Nat) (hn:n≤cap) (A:Option Addr) (cx:Nat) (ty:TypeId) :
  (Builtin.append_ #[t,t] ty #[.slice base n cap,.slice A 0 cx]).run P w=.ok (.slice base n cap) w:=by
 cases A <;> cases base <;> simp [Builtin.append_,run_underlying ht,sizeOf,typeInfo,hi,Builtin.lenOf,Builtin.firstCells,hn,storeCells,loadCells,loadCellsFrom]

theorem run_append_room' (t ty e e1:TypeId) (i:TypeInfo) (ht:P.underlying t=some (.slice e)) (hi:P.info? e=some i)
  (g sLen sCap:Nat) (cur:Array Value) (hg:w.heap[g]?=some (.cells cur e1 (0,0)))
  (a:Addr) (m c:Nat) (news:List Value) (hl:news.length=m * i.size) (hnews:∀ (j:Nat) (u:Value),news[j]?=some u→w.cell? (a.add j)=some u) (h1:∀ u∈news,u.oneCell'=true)
  (hroom:sLen+m≤sCap) (hfit:sLen * i.size+news.length≤cur.size) :
  (Builtin.append_ #[t,t] ty #[.slice (some ⟨g,0,none⟩) sLen sCap,.slice (some a) m c]).run P w =
   .ok (.slice (some ⟨g,0,none⟩) (sLen+m) sCap) (w.setRow g (cur.toList.take (sLen * i.size)++news++cur.toList.drop (sLen * i.size+news.length)).toArray):=by
 have hf:=run_firstCells_some (P:=P) w i.size m a m c news hl hnews
 have hst:=run_storeCells_at (P:=P) g (sLen * i.size) e1 news 0 cur w hg (by simpa using hfit) h1
 simp only [Nat.add_zero] at hst
 simp [Builtin.append_,run_underlying ht,sizeOf,typeInfo,hi,Builtin.lenOf,hroom,hf,Addr.add_lit,hst]

theorem run_append_ty (t ty e e1:TypeId) (i:TypeInfo) (z:Value) (size bytes:Nat) (ht:P.underlying t=some (.slice e)) (hi:P.info? e=some i) (hz:i.zero=some z)
  (hsize:i.size=size) (hby:i.bytes=bytes) (hzs:z.cells.size=size) (hsz:0 < size)
  (v:Value) (n:Nat) (xs:List Value) (hown:w.ownsRow 0 e1 size v n xs)
  (a:Addr) (m c:Nat) (news:List Value) (hl:news.length=m * size) (hnews:∀ (j:Nat) (u:Value),news[j]?=some u→w.cell? (a.add j)=some u) (h1:∀ u∈news,u.oneCell'=true) (hm0:0 < m)
  (h63:n+m≤maxLen) (hbytes:(n+m) * bytes≤140737488355328) :
  ∃ v' w' e2,(Builtin.append_ #[t,t] ty #[v,.slice (some a) m c]).run P w=.ok v' w'∧w'.ownsRow 0 e2 size v' (n+m) (xs++news)∧w.grownBy w' v.ownBlock ∧
   (v'.ownBlock=v.ownBlock∧v.ownBlock≠none∨v'.ownBlock=some w.heap.size):=by
 subst hsize
 subst hby
 have hlen:(xs++news).length=(n+m) * i.size:=by rw [List.length_append,hown.1,hl,Nat.add_mul]
 have hsmall:n+m≤9223372036854775807:=by simp only [maxLen] at h63; omega
 rcases hown.2 with ⟨rfl,rfl⟩ | ⟨g,cap,cur,rfl,hbg,hg,hnc,hcm,hcs,htake⟩
 ·obtain ⟨v',w',hr,h2,h3,h4,h5⟩:=run_append_own_at (P:=P) w 0 t ty e i z i.size i.bytes ht hi hz rfl rfl hzs hsz (.slice none 0 0) 0 xs ⟨hown.1,.inl ⟨rfl,rfl⟩⟩ a m c news hl hnews h1 h63 hbytes (Nat.zero_le _)
  refine ⟨v',w',e,hr,h2,h3,?_⟩
  rcases h5 with h5 | h5
  ·exfalso
   have hne:¬ (v'=.slice none 0 0):=fun h=>by have:=(h4.1 h).2; omega
   rcases h2.2 with ⟨hv,_⟩ | ⟨g,cap,cur,hv,_⟩
   ·exact hne hv
   ·rw [hv] at h5; simp [Value.ownBlock] at h5
  ·exact .inr h5
 ·by_cases hroom:n+m≤cap
  ·have hfit:n * i.size+news.length≤cur.size:=by rw [hl,hcs,← Nat.add_mul]; exact Nat.mul_le_mul_right _ hroom
   have hr:=run_append_room' (P:=P) (w:=w) t ty e e1 i ht hi g n cap cur hg a m c news hl hnews h1 hroom hfit
   refine ⟨_,_,e1,hr,⟨hlen,.inr ⟨g,cap,_,rfl,hbg,setRow_heap w g cur _ e1 _ hg,hroom,hcm,?_,?_⟩⟩,⟨rfl,rfl,rfl,by simp,fun k _ hk=>setRow_other w g k _ (fun e=>hk (by simp [Value.ownBlock,e]))⟩,.inl ⟨by simp [Value.ownBlock],by simp [Value.ownBlock]⟩⟩
   ·simp only [List.size_toArray,List.length_append,List.length_take,List.length_drop,Array.length_toList]
    omega
   ·rw [htake,← hlen]
    exact List.take_left
  ·have holds:∀ (j:Nat) (u:Value),xs[j]?=some u→w.cell? ((⟨g,0,none⟩:Addr).add j)=some u:=hown.cells (g:=g) rfl
   have hr:=run_append_grow (P:=P) w t ty e i z ht hi hz ⟨g,0,none⟩ n cap xs hown.1 holds a m c news hl hnews (by omega) (by omega) (growslice_fits (by omega) hbytes)
   have hge:=grownCap_ge w (n+m) cap e
   have hcm:grownCap w (n+m) cap e≤maxLen:=grownCap_le_maxLen w (n+m) cap e h63
   refine ⟨_,_,e,hr,⟨hlen,.inr ⟨w.heap.size,_,_,rfl,Nat.zero_le _,heap_alloc_new w.drew _,hge,hcm,?_,?_⟩⟩,⟨rfl,rfl,rfl,by simp,fun k hk _=>Below.heap_alloc w.drew _ k hk⟩,.inr rfl⟩
   ·simp only [Array.size_append,List.size_toArray,size_zeroCells,hzs,hown.1,hl,← Nat.add_mul]
    congr 1
    omega
   ·simp only [Array.toList_append,List.append_assoc]
    rw [← List.append_assoc,← hlen]
    exact List.take_left

theorem execOp_app {x y:Operand} {t:TypeId} (ho:o.op=.call { callee:=.builtin .append,args:=#[x,y],argTypes:=#[t,t] }) {v:Value} {w':World} (h:(Builtin.append_ #[t,t] o.type #[ρ x,ρ y]).run P w=.ok v w') :
  (execOp ρ o).run P w=.ok (.value v) w':=by
 simp [execOp,ho,resolve,invoke,builtin,h]

theorem ownBlock_of {e:TypeId} {sz:Nat} {v:Value} {n:Nat} {xs:List Value} (h:w.ownsRow 0 e sz v n xs):(∃ A cap,v=.slice A n cap∧n≤cap∧cap≤maxLen):=by
 rcases h.2 with ⟨rfl,rfl⟩ | ⟨g,cap,cur,rfl,_,_,h1,h2,_⟩
 ·exact ⟨none,0,rfl,Nat.le_refl _,Nat.zero_le _⟩
 ·exact ⟨_,cap,rfl,h1,h2⟩

theorem elemInfo_app {e:TypeId} {sz:Nat} {zs:List DV} (h:elemInfo P e=some (sz,zs)):∃ i z,P.info? e=some i∧i.zero=some z∧i.size=sz∧z.cells.size=sz∧0 < sz∧i.bytes≤65536:=by
 obtain ⟨i,z,h1,h2,h3,h4,h5,h6,_,_⟩:=elemInfo_some h
 exact ⟨i,z,h1,h2,h5,h4,h6,h3⟩

theorem out_appNil (hm:MR c O ob w) (hF:Fresh c fr) {x y:Operand} {t e:TypeId} (ho:o.op=.call { callee:=.builtin .append,args:=#[x,y],argTypes:=#[t,t] }) (ht:P.underlying t=some (.slice e)) {sz:Nat} {zs:List DV} (hz:elemInfo P e=some (sz,zs))
  {id:Nat} (hid:fr id=true) (h5:id % 8≠5) (hsz:szId id=sz) {d:DV} {news:List DV} (hx:VR w c.B (okb c.ok0 c.B O) O .nil (ρ x)) (hy:VR w c.B (okb c.ok0 c.B O) O d (ρ y)) (he:elems ob d=some news) (hw:∀ e∈news,e.cells.length=sz) (hb:news.length≤bound) :
  Out P c fr w O ((execOp ρ o).run P w) (.own id news.length 0 news.length) (putO ob id news):=by
 obtain ⟨i,z,hi,hzv,hs1,hs2,hpos,hbytes⟩:=elemInfo_app hz
 have hb':news.length≤1073741824:=hb
 obtain ⟨A,cx,hv,hrd⟩:=elems_ok hm hy he
 have hxv:=(hx.slice_).2.2 rfl
 rcases Nat.eq_zero_or_pos news.length with h0 | h0
 ·have hn:news=[]:=List.eq_nil_of_length_eq_zero h0
  subst hn
  obtain ⟨h1,h2⟩:=hm.newNil id (hF.ne hid) (fun h=>absurd h h5) sz e hpos hsz.symm
  refine ⟨.slice none 0 0,w,_,.inl (execOp_app ho ?_),h1,?_,h2.mono (fun j hj=>by rw [hj]; exact hid)⟩
  ·rw [hxv,hv]; exact run_append_none ht hi none 0 0 (Nat.le_refl _) A cx o.type
  ·exact .own id 0 0 0 _ _ (upd_same _ _ _) rfl (Nat.le_refl _) (Nat.le_refl _) ⟨none,0,rfl,Nat.le_refl _,Nat.zero_le _,fun h=>absurd h (by omega),fun _ _=>rfl,fun _=>⟨0,rfl⟩⟩
 ·obtain ⟨ad,xs,rfl,hcell,hcr⟩:=hrd h0
  have hfl:=flat_len hw
  have hr:=run_append_nil (P:=P) w t o.type e i z ht hi hzv ad news.length cx xs (by rw [hcr.1,hfl,hs1]) hcell h0 (by omega) (by
   have:news.length * i.bytes≤1073741824 * 65536:=Nat.mul_le_mul hb' hbytes
   omega)
  have hge:=grownCap_ge w news.length 0 e
  have hcm:grownCap w news.length 0 e≤maxLen:=grownCap_le_maxLen w news.length 0 e (by simp [maxLen]; omega)
  have hxl:xs.length=news.length * sz:=by rw [hcr.1,hfl]
  have ht0:Tr c.ok0 c.B (fun _=>False) w O w.drew O:=⟨Nat.le_refl _,fun _ _ _=>rfl,fun _ h _=>h,fun _ _ _ h=>.inl h,fun _ p _ h=>⟨p,h,.inl rfl⟩⟩
  have hm':MR c O ob w.drew:=⟨hm.os,hm.tape,hm.output,hm.size,hm.frame,hm.dom,fun k p es h1 h2=>(hm.obj k p es h1 h2).tr ht0 (fun _ _=>rfl),hm.inj,hm.base,hm.sz,hm.refs,hm.glob⟩
  obtain ⟨h1,h2⟩:=hm'.new id (hF.ne hid) (fun h=>absurd h h5) news (xs.toArray++Builtin.zeroCells z.cells (grownCap w news.length 0 e - news.length)) news.length (grownCap w news.length 0 e) sz e xs hsz.symm rfl hge hcm hpos hw
   (by simp only [Array.size_append,List.size_toArray,size_zeroCells,hs2,hxl,← Nat.add_mul]; congr 1; omega) (by simp only [Array.toList_append]; rw [← hxl]; exact List.take_left) hxl (hcr.tr ht0)
  refine ⟨.slice (some ⟨w.heap.size,0,none⟩) news.length (grownCap w news.length 0 e),_,_,.inl (execOp_app ho ?_),h1,?_,(ht0.trans h2).mono (fun j hj=>by rcases hj with h | h; exact h.elim; rw [h]; exact hid)⟩
  ·rw [hxv,hv]; exact hr
  ·exact .own id _ 0 _ _ _ (upd_same _ _ _) rfl (Nat.zero_le _) (Nat.le_refl _) ⟨_,_,rfl,by omega,hcm,fun h=>⟨_,rfl,by simp⟩,fun _ _=>rfl,fun _=>⟨_,rfl⟩⟩

theorem out_app (hm:MR c O ob w) (hF:Fresh c fr) {x y:Operand} {t e:TypeId} (ho:o.op=.call { callee:=.builtin .append,args:=#[x,y],argTypes:=#[t,t] }) (ht:P.underlying t=some (.slice e)) {sz:Nat} {zs:List DV} (hz:elemInfo P e=some (sz,zs))
  {k n:Nat} (hk7:k % 8≠7) (hsz:szId k=sz) {d:DV} {news es:List DV} (hx:VR w c.B (okb c.ok0 c.B O) O (.own k n 0 n) (ρ x)) (hy:VR w c.B (okb c.ok0 c.B O) O d (ρ y)) (he:elems ob d=some news) (hw:∀ e∈news,e.cells.length=sz) (hl:lookO ob k=some es) (hn:es.length=n) (hb:n+news.length≤bound) :
  Out P c fr w O ((execOp ρ o).run P w) (.own k (n+news.length) 0 (n+news.length)) (putO ob k (es++news)):=by
 obtain ⟨i,z,hi,hzv,hs1,hs2,hpos,hbytes⟩:=elemInfo_app hz
 have hb':n+news.length≤1073741824:=hb
 obtain ⟨A,cx,hv,hrd⟩:=elems_ok hm hy he
 obtain ⟨p,hO,hp,_,_,hvw,hor⟩:=hx.own_cur hm hl hn
 obtain ⟨A0,c0,_,_,_,_,hfull,_⟩:=hvw
 have hxv:ρ x=p.hv:=hfull rfl hp.symm
 have hpsz:p.sz=sz:=by rw [hm.sz k p hO,hsz]
 obtain ⟨xs0,hrow,hcs0⟩:=hor.row
 rcases Nat.eq_zero_or_pos news.length with h0 | h0
 ·have hnn:news=[]:=List.eq_nil_of_length_eq_zero h0
  subst hnn
  obtain ⟨A1,c1,hv1,hc1,_⟩:=ownBlock_of hrow
  refine ⟨p.hv,w,O,.inl (execOp_app ho ?_),?_,?_,Tr.refl _ _ _ _ _⟩
  ·rw [hxv,hv,hv1]; exact run_append_none ht hi A1 p.len c1 hc1 A cx o.type
  ·refine hm.congr (fun j=>?_)
   rw [lookO_put,List.append_nil]
   split
   ·rename_i h; rw [h,hl]
   ·rfl
  ·simp only [List.length_nil,Nat.add_zero]
   exact .own k n 0 n p _ hO hp (Nat.zero_le _) (Nat.le_refl _) (by rw [← hp]; exact view_full hrow rfl)
 ·obtain ⟨ad,xs,rfl,hcell,hcr⟩:=hrd h0
  have hfl:=flat_len hw
  rw [hpsz] at hrow
  obtain ⟨v',w',e2,hr,hrow',hg,hblk⟩:=run_append_ty (P:=P) t o.type e p.ty i z sz i.bytes ht hi hzv hs1 rfl hs2 hpos p.hv p.len xs0 hrow ad news.length cx xs (by rw [hcr.1,hfl]) hcell hcr.oneCell h0 (by rw [hp]; simp [maxLen]; omega) (by
   rw [hp]
   have:(n+news.length) * i.bytes≤1073741824 * 65536:=Nat.mul_le_mul hb' hbytes
   omega)
  rw [hp] at hrow'
  have hp':(⟨v',n+news.length,e2,sz⟩:PO).hv=v':=rfl
  obtain ⟨h1,h2⟩:=hm.turn (k:=k) (p:=p) (p':=⟨v',n+news.length,e2,sz⟩) (es':=es++news) (w':=w') hO hg.os hg.tape hg.output hg.size
   (fun b hb hne=>hg.block b hb (fun e=>hne e.symm)) (by
    rcases hblk with ⟨h,_⟩ | h
    ·exact .inl h
    ·exact .inr ⟨_,h,Nat.le_refl _⟩) (.inr (fun r hr h7 e=>hk7 (by rw [← e]; exact h7))) (.inr (by show p.len < n+news.length; omega)) hpsz.symm (fun ok hok hkeep=>by
    refine ⟨by simp [hn],hpos,fun q hq=>?_,xs0++xs,hrow',?_⟩
    ·rcases List.mem_append.1 hq with h | h
     ·rw [hor.wid q h]; exact hpsz
     ·exact hw q h
    ·rw [flat_append]
     exact hkeep _ _ (hcs0.append hcr))
  refine ⟨v',w',_,.inl (execOp_app ho ?_),h1,?_,h2.mono (fun _ h=>h.elim)⟩
  ·rw [hxv,hv]; exact hr
  ·exact .own k _ 0 _ _ _ (upd_same _ _ _) rfl (Nat.zero_le _) (Nat.le_refl _) (view_full (p:=⟨v',n+news.length,e2,sz⟩) hrow' rfl)
theorem out_appCel (hm:MR c O ob w) (hF:Fresh c fr) {x y:Operand} {t e:TypeId} (ho:o.op=.call { callee:=.builtin .append,args:=#[x,y],argTypes:=#[t,t] }) (ht:P.underlying t=some (.slice e)) {sz:Nat} {zs:List DV} (hz:elemInfo P e=some (sz,zs))
  {k n:Nat} (hsz:szId k=sz) {d:DV} {news es:List DV} (hx:VR w c.B (okb c.ok0 c.B O) O (.cel k n) (ρ x)) (hy:VR w c.B (okb c.ok0 c.B O) O d (ρ y)) (he:elems ob d=some news) (hw:∀ e∈news,e.cells.length=sz) (hl:lookO ob k=some es) (hn:es.length=n) (hb:n+news.length≤bound) :
  Out P c fr w O ((execOp ρ o).run P w) (.cel k (n+news.length)) (putO ob k (es++news)):=by
 obtain ⟨h5,hx'⟩:=hx.cel_own hm hl hn
 obtain ⟨v,w',O',hr,hm',hv,ht'⟩:=out_app hm hF ho ht hz (by omega) hsz hx' hy he hw hl hn hb
 exact ⟨v,w',O',hr,hm',hv.own_cel hm' (by rw [lookO_put,if_pos rfl]) (by simp [hn]) h5,ht'⟩
/-- The front part of a row. -/
theorem ownsRow_cut {ty:TypeId} {sz:Nat} {A:Option Addr} {n h c:Nat} {xs:List Value} (hr:w.ownsRow 0 ty sz (.slice A n c) n xs) (hh:h≤n) (hpos:0 < n):w.ownsRow 0 ty sz (.slice A h c) h (xs.take (h * sz)):=by
 have hmul:h * sz≤n * sz:=Nat.mul_le_mul_right _ hh
 refine ⟨by rw [List.length_take,hr.1]; exact Nat.min_eq_left hmul,?_⟩
 rcases hr.2 with ⟨hv,h0⟩ | ⟨g,cp,cur,hv,h1,h2,h3,h4,h5,h6⟩
 ·omega
 ·injection hv with hA hn hc
  subst hA; subst hc
  exact .inr ⟨g,c,cur,rfl,h1,h2,by omega,h4,h5,by rw [← h6,List.take_take,Nat.min_eq_left hmul]⟩

theorem out_appIn (hm:MR c O ob w) {x y:Operand} {t e:TypeId} (ho:o.op=.call { callee:=.builtin .append,args:=#[x,y],argTypes:=#[t,t] }) (ht:P.underlying t=some (.slice e)) {sz:Nat} {zs:List DV} (hz:elemInfo P e=some (sz,zs))
  {k n h:Nat} (hsz:szId k=sz) {d:DV} {news es:List DV} (hx:VR w c.B (okb c.ok0 c.B O) O (.own k n 0 h) (ρ x)) (hy:VR w c.B (okb c.ok0 c.B O) O d (ρ y)) (he:elems ob d=some news) (hw:∀ e∈news,e.cells.length=sz) (hl:lookO ob k=some es) (hn:es.length=n) (hlt:h < n) (hin:h+news.length≤n) :
  Out P c fr w O ((execOp ρ o).run P w) (.own k n 0 (h+news.length)) (putO ob k (es.take h++news++es.drop (h+news.length))):=by
 obtain ⟨i,z,hi,hzv,hs1,hs2,hpos,hbytes⟩:=elemInfo_app hz
 obtain ⟨A,cx,hv,hrd⟩:=elems_ok hm hy he
 obtain ⟨p,hO,hp,_,_,hvw,hor⟩:=hx.own_cur hm hl hn
 obtain ⟨A0,c0,hxv,hc1,hcm0,_,_,hhd⟩:=hvw
 obtain ⟨n',hhv⟩:=hhd rfl
 simp only [Nat.sub_zero] at hxv hc1
 have hpsz:p.sz=sz:=by rw [hm.sz k p hO,hsz]
 obtain ⟨xs0,hrow,hcs0⟩:=hor.row
 rw [hpsz] at hrow
 have hn':n'=n:=by
  obtain ⟨A1,c1,hv1,_⟩:=ownBlock_of hrow
  rw [hhv] at hv1; injection hv1 with _ h2 _; omega
 subst hn'
 have hrow1:=hrow
 rw [hhv,hp] at hrow1
 obtain ⟨hxl,hr⟩:=hrow1
 rcases hr with ⟨_,h2⟩ | ⟨g,cap,cur,hv1,hbg,hg,hnc,hcm,hcs,htake⟩
 ·omega
 injection hv1 with hA _ hc
 subst hA
 subst hc
 have hgb:p.hv.ownBlock=some g:=by rw [hhv]; rfl
 rcases Nat.eq_zero_or_pos news.length with h0 | h0
 ·have hnn:news=[]:=List.eq_nil_of_length_eq_zero h0
  subst hnn
  refine ⟨ρ x,w,O,.inl (execOp_app ho ?_),?_,by simpa using hx,Tr.refl _ _ _ _ _⟩
  ·rw [hxv,hv]; exact run_append_none ht hi _ h c0 (by omega) A cx o.type
  ·refine hm.congr (fun j=>?_)
   rw [lookO_put]
   split
   ·rename_i hj; rw [hj,hl]; simp
   ·rfl
 ·obtain ⟨ad,xs,rfl,hcell,hcr⟩:=hrd h0
  have hfl:=flat_len hw
  have hxsl:xs.length=news.length * sz:=by rw [hcr.1,hfl]
  have hsum:h * sz+xs.length=(h+news.length) * sz:=by rw [hxsl,Nat.add_mul]
  have hle:(h+news.length) * sz≤n' * sz:=Nat.mul_le_mul_right _ hin
  have hle2:n' * sz≤c0 * sz:=Nat.mul_le_mul_right _ hnc
  have hr:=run_append_room' (P:=P) (w:=w) t o.type e p.ty i ht hi g h c0 cur hg ad news.length cx xs (by rw [hs1]; exact hxsl) hcell hcr.oneCell (by omega) (by rw [hs1]; omega)
  rw [hs1] at hr
  generalize hrow2:(cur.toList.take (h * sz)++xs++cur.toList.drop (h * sz+xs.length)).toArray=row at hr
  have hwid':∀ q∈es.take h++news++es.drop (h+news.length),q.cells.length=p.sz:=by
   intro q hq
   rcases List.mem_append.1 hq with hq | hq
   ·rcases List.mem_append.1 hq with hq | hq
    ·exact hor.wid q (List.mem_of_mem_take hq)
    ·rw [hw q hq,hpsz]
   ·exact hor.wid q (List.mem_of_mem_drop hq)
  obtain ⟨h1,h2⟩:=hm.turn (k:=k) (p:=p) (p':=p) (es':=es.take h++news++es.drop (h+news.length)) (w':=w.setRow g row) hO rfl rfl rfl (by simp)
    (fun b _ hb=>setRow_other w g b _ (fun e=>hb (by rw [hgb,e]))) (.inl rfl) (.inl rfl) (.inl rfl) rfl (fun ok hok hkeep=>by
    refine ⟨by simp; omega,hor.pos,hwid',xs0.take (h * sz)++xs++xs0.drop (h * sz+xs.length),⟨?_,.inr ⟨g,c0,_,by rw [hhv,hp],hbg,setRow_heap w g cur _ p.ty _ hg,by omega,hcm,?_,?_⟩⟩,?_⟩
    ·rw [hpsz,hp]; simp only [List.length_append,List.length_take,List.length_drop]; omega
    ·rw [hpsz,← hrow2]; simp only [List.size_toArray,List.length_append,List.length_take,List.length_drop,Array.length_toList]; omega
    ·rw [hpsz,hp,← hrow2,List.toList_toArray,list_take_over _ _ _ _ (by omega) (by simp; omega),htake]
    ·have e1:flat (es.take h++news++es.drop (h+news.length))=(flat es).take (h * sz)++flat news++(flat es).drop (h * sz+xs.length):=by
      rw [flat_append,flat_append,flat_take hor.wid,flat_drop hor.wid,hpsz,hsum]
     rw [e1]
     exact hkeep _ _ (((hcs0.take _).append hcr).append (hcs0.drop _)))
  refine ⟨.slice (some ⟨g,0,none⟩) (h+news.length) c0,_,_,.inl (execOp_app ho ?_),h1,?_,h2.mono (fun _ h=>h.elim)⟩
  ·rw [hxv,hv]; exact hr
  ·refine .own k n' 0 _ p _ (upd_same _ _ _) hp (Nat.zero_le _) hin ⟨some ⟨g,0,none⟩,c0,rfl,by omega,hcm0,fun _=>⟨g,hgb,by simp⟩,fun _ hh=>?_,fun _=>⟨n',hhv⟩⟩
   rw [hhv,← hp,← hh]
theorem out_appCut (hm:MR c O ob w) (hF:Fresh c fr) {x y:Operand} {t e:TypeId} (ho:o.op=.call { callee:=.builtin .append,args:=#[x,y],argTypes:=#[t,t] }) (ht:P.underlying t=some (.slice e)) {sz:Nat} {zs:List DV} (hz:elemInfo P e=some (sz,zs))
  {k n h:Nat} (hk7:k % 8≠7) (hsz:szId k=sz) {d:DV} {news es:List DV} (hx:VR w c.B (okb c.ok0 c.B O) O (.own k n 0 h) (ρ x)) (hy:VR w c.B (okb c.ok0 c.B O) O d (ρ y)) (he:elems ob d=some news) (hw:∀ e∈news,e.cells.length=sz) (hl:lookO ob k=some es) (hn:es.length=n) (hlt:h < n) (hout:n < h+news.length) (hb:h+news.length≤bound) :
  Out P c fr w O ((execOp ρ o).run P w) (.own k (h+news.length) 0 (h+news.length)) (putO ob k (es.take h++news)):=by
 obtain ⟨i,z,hi,hzv,hs1,hs2,hpos,hbytes⟩:=elemInfo_app hz
 have hb':h+news.length≤1073741824:=hb
 obtain ⟨A,cx,hv,hrd⟩:=elems_ok hm hy he
 obtain ⟨p,hO,hp,_,_,hvw,hor⟩:=hx.own_cur hm hl hn
 obtain ⟨A0,c0,hxv,_,_,_,_,hhd⟩:=hvw
 obtain ⟨n',hhv⟩:=hhd rfl
 simp only [Nat.sub_zero] at hxv
 have hpsz:p.sz=sz:=by rw [hm.sz k p hO,hsz]
 obtain ⟨xs0,hrow,hcs0⟩:=hor.row
 rw [hpsz] at hrow
 have hn':n'=n:=by
  obtain ⟨A1,c1,hv1,_⟩:=ownBlock_of hrow
  rw [hhv] at hv1; injection hv1 with _ h2 _; omega
 subst hn'
 rw [hhv,hp] at hrow
 have hcut:=ownsRow_cut hrow (Nat.le_of_lt hlt) (by omega)
 have hg7:∃ g,A0=some ⟨g,0,none⟩∧p.hv.ownBlock=some g:=by
  rcases hrow.2 with ⟨h1,h2⟩ | ⟨g,cp,cur,h1,_⟩
  ·injection h1 with _ h3 _; omega
  ·injection h1 with h3 _ _; subst h3; exact ⟨g,rfl,by rw [hhv]; rfl⟩
 obtain ⟨g,rfl,hgb⟩:=hg7
 have h0:0 < news.length:=by omega
 obtain ⟨ad,xs,rfl,hcell,hcr⟩:=hrd h0
 have hfl:=flat_len hw
 obtain ⟨v',w',e2,hr,hrow',hg,hblk⟩:=run_append_ty (P:=P) t o.type e p.ty i z sz i.bytes ht hi hzv hs1 rfl hs2 hpos (.slice (some ⟨g,0,none⟩) h c0) h (xs0.take (h * sz)) hcut ad news.length cx xs (by rw [hcr.1,hfl]) hcell hcr.oneCell h0 (by simp [maxLen]; omega) (by
  have:(h+news.length) * i.bytes≤1073741824 * 65536:=Nat.mul_le_mul hb' hbytes
  omega)
 obtain ⟨h1,h2⟩:=hm.turn (k:=k) (p:=p) (p':=⟨v',h+news.length,e2,sz⟩) (es':=es.take h++news) (w':=w') hO hg.os hg.tape hg.output hg.size
  (fun b hb hne=>hg.block b hb (fun e=>hne (by rw [hgb]; simpa [Value.ownBlock] using e.symm))) (by
   rcases hblk with ⟨h,_⟩ | h
   ·exact .inl (by rw [hgb]; exact h)
   ·exact .inr ⟨_,h,Nat.le_refl _⟩) (.inr (fun r hr h7 e=>hk7 (by rw [← e]; exact h7))) (.inr (by show p.len < h+news.length; omega)) hpsz.symm (fun ok hok hkeep=>by
   refine ⟨by simp; omega,hpos,fun q hq=>?_,xs0.take (h * sz)++xs,hrow',?_⟩
   ·rcases List.mem_append.1 hq with h | h
    ·rw [hor.wid q (List.mem_of_mem_take h)]; exact hpsz
    ·exact hw q h
   ·rw [flat_append,flat_take hor.wid,hpsz]
    exact hkeep _ _ ((hcs0.take _).append hcr))
 refine ⟨v',w',_,.inl (execOp_app ho ?_),h1,?_,h2.mono (fun _ h=>h.elim)⟩
 ·rw [hxv,hv]; exact hr
 ·exact .own k _ 0 _ _ _ (upd_same _ _ _) rfl (Nat.zero_le _) (Nat.le_refl _) (view_full (p:=⟨v',h+news.length,e2,sz⟩) hrow' rfl)
end
end Go.Lg
