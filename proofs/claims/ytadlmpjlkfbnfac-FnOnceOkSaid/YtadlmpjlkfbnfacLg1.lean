/- Part 1 of a logical reading of translated Go: what a frame holds is said by lists, and each operation is proved against the model. No conditions. -/
import GoSem.Core.Code
import Derived.WalkKit
namespace Go.Lg

/-- What a slot holds, said as data. -/
inductive DV where
  | i (n : Int)
  | y (n : Nat)
  | b (x : Bool)
  | s (l : List UInt8)
  | st (cs : List DV)
  | sl (p : Nat) (es : List DV)
  | own (k n lo hi : Nat)
  | adr (d : DV)
  | oad (k n at_ off : Nat)
  | ref (c : DV)
  | fr (sz : Nat) (es : List DV)
  | tup (ds : List DV)
  | nil
  | np
  | und
  | dead
deriving Inhabited

def DV.cells : DV → List DV
  | .st cs => cs
  | d => [d]

def flat (es : List DV) : List DV := es.flatMap DV.cells

/-- May it lie in a cell? -/
def DV.cell : DV → Bool
  | .i _ | .y _ | .b _ | .s _ | .sl _ _ => true
  | _ => false

mutual
def DV.lend : DV → DV
  | .st cs => .st (lendL cs)
  | .sl _ es => .sl 0 (lendL es)
  | d => d
def lendL : List DV → List DV
  | [] => []
  | d :: ds => d.lend :: lendL ds
end
/-- What a slice may be: 0: from before; 1: new, and the whole of its row; 2: any; 3: new. -/
def adoptP (o : Bool) (p : Nat) : Nat := if p = 1 then 1 else if p = 3 then 3 else if o = true ∧ p = 0 then 0 else 2
mutual
def DV.adopt (o : Bool) : DV → DV
  | .st cs => .st (adoptL o cs)
  | .sl p es => .sl (adoptP o p) (adoptL o es)
  | d => d
def adoptL (o : Bool) : List DV → List DV
  | [] => []
  | d :: ds => d.adopt o :: adoptL o ds
end
def newP (p : Nat) : Bool := p == 1 || p == 3
mutual
def DV.allNew : DV → Bool
  | .st cs => allNewL cs
  | .sl p es => newP p && allNewL es
  | _ => true
def allNewL : List DV → Bool
  | [] => true
  | d :: ds => d.allNew && allNewL ds
end
mutual
def DV.allOld : DV → Bool
  | .st cs => allOldL cs
  | .sl p es => p == 0 && allOldL es
  | .i _ | .y _ | .b _ | .s _ | .nil | .dead | .und | .np => true
  | .oad .. => true
  | _ => false
def allOldL : List DV → Bool
  | [] => true
  | d :: ds => d.allOld && allOldL ds
end

abbrev Env := List (Nat × DV)
abbrev OB := List (Nat × List DV)

def look : Env → Nat → DV
  | [], _ => .dead
  | (k, d) :: r, t => if k = t then d else look r t
def put : Env → Nat → DV → Env
  | [], t, d => [(t, d)]
  | (k, e) :: r, t, d => if t < k then (t, d) :: (k, e) :: r else if t = k then (t, d) :: r else (k, e) :: put r t d
def lookO : OB → Nat → Option (List DV)
  | [], _ => none
  | (k, d) :: r, t => if k = t then some d else lookO r t
def putO : OB → Nat → List DV → OB
  | [], t, d => [(t, d)]
  | (k, e) :: r, t, d => if t < k then (t, d) :: (k, e) :: r else if t = k then (t, d) :: r else (k, e) :: putO r t d
def dropO (ob : OB) (t : Nat) : OB := ob.filter fun p => !(p.1 == t)

/-- An object's number tells the slot at which it was made, and the cells of its elements. -/
def mkId (d sz i : Nat) : Nat := 512 * d + 8 * sz + i
def szId (k : Nat) : Nat := k / 8 % 64

structure LS where
  sl : Env
  ob : OB

inductive Opd where
  | t (n : Nat)
  | c (d : DV)
def LS.get (S : LS) : Opd → DV
  | .t n => look S.sl n
  | .c d => d

inductive Cv where
  | b2i | i2b | i2i | s2b | b2s | same

inductive K where
  | mv
  | newnil (id : Nat)
  | pick
  | bin (op : BinOp)
  | eqb (neg : Bool)
  | eqs (neg : Bool) (n : Nat)
  | un (op : UnOp)
  | len
  | lens
  | chk
  | fld (off sz : Nat) (agg : Bool)
  | fldv (off sz : Nat) (agg : Bool)
  | idxa (sz : Nat)
  | idx
  | load (sz : Nat) (agg : Bool)
  | store (sz : Nat)
  | slice (lo hi : Bool) (sz : Nat)
  | slices (lo hi : Bool)
  | make (id sz : Nat) (z : DV)
  | alloc (id : Nat) (z : DV)
  | box (id : Nat)
  | build (z : List DV) (places : List (Nat × Nat))
  | bslice (id len sz : Nat) (z : DV) (places : List Nat)
  | app (id sz : Nat)
  | conv (v : Cv) (id : Nat)
  | ext (j : Nat)
  | call (f : Nat) (id : Nat)
  | mm (mx : Bool)
  | idxp (len sz : Nat)

structure LOp where
  dst : Option Nat
  k : K
  args : List Opd
  g : Option (Nat × Bool)

inductive Ghost where
  | promote (t id : Nat)
  | freeze (t : Nat)
  | rename (t id : Nat)

inductive LC where
  | skip
  | ret
  | exit (id : Nat)
  | region (draw : Bool) (ops : List LOp) (kill : List Nat)
  | seq (a b : LC)
  | cond (c : Opd) (kill : List Nat) (x y : LC)
  | block (id : Nat) (b : LC)
  | loop (b : LC)
  | ghost (g : Ghost) (c : LC)

inductive Ex where
  | normal | exit (id : Nat) | ret

def bound : Nat := 1073741824

def wr (n : Int) : Int := IntKind.i64.wrap n

def binI (op : BinOp) (a b : Int) : Option DV :=
  match op with
  | .add => some (.i (wr (a + b)))
  | .sub => some (.i (wr (a - b)))
  | .mul => some (.i (wr (a * b)))
  | .quo => if b = 0 then none else some (.i (wr (a.tdiv b)))
  | .rem => if b = 0 then none else some (.i (a.tmod b))
  | .eql => some (.b (a == b))
  | .neq => some (.b (a != b))
  | .lss => some (.b (decide (a < b)))
  | .leq => some (.b (decide (a ≤ b)))
  | .gtr => some (.b (decide (a > b)))
  | .geq => some (.b (decide (a ≥ b)))
  | .shl => if b < 0 then none else some (.i (wr (a * 2 ^ (min b.toNat 64))))
  | .shr => if b < 0 then none else some (.i (a.fdiv (2 ^ (min b.toNat 64))))
  | .and => some (.i (wr ((BitVec.ofInt 64 a &&& BitVec.ofInt 64 b).toNat)))
  | .or => some (.i (wr ((BitVec.ofInt 64 a ||| BitVec.ofInt 64 b).toNat)))
  | .xor => some (.i (wr ((BitVec.ofInt 64 a ^^^ BitVec.ofInt 64 b).toNat)))
  | .andNot => some (.i (wr ((BitVec.ofInt 64 a &&& ~~~(BitVec.ofInt 64 b)).toNat)))

def wr8 (n : Int) : Nat := (n % 256).toNat

def binY (op : BinOp) (a b : Nat) : Option DV :=
  match op with
  | .add => some (.y (wr8 ((a : Int) + b)))
  | .sub => some (.y (wr8 ((a : Int) - b)))
  | .eql => some (.b (a == b))
  | .neq => some (.b (a != b))
  | .lss => some (.b (decide (a < b)))
  | .leq => some (.b (decide (a ≤ b)))
  | .gtr => some (.b (decide (a > b)))
  | .geq => some (.b (decide (a ≥ b)))
  | _ => none

def binS (op : BinOp) (a b : List UInt8) : Option DV :=
  match op with
  | .add => if a.length + b.length ≤ bound then some (.s (a ++ b)) else none
  | .eql => some (.b (a == b))
  | .neq => some (.b (!(a == b)))
  | .lss => some (.b (Op.bytesLess a b))
  | .leq => some (.b (Op.bytesLess a b || a == b))
  | .gtr => some (.b (!(Op.bytesLess a b || a == b)))
  | .geq => some (.b (!Op.bytesLess a b))
  | _ => none

def eqI : List DV → List DV → Option Bool
  | [], [] => some true
  | .i a :: as, .i b :: bs => if a == b then eqI as bs else some false
  | _, _ => none

def binD (op : BinOp) (x y : DV) : Option DV :=
  match x, y with
  | .i a, .i b => binI op a b
  | .y a, .y b => binY op a b
  | .s a, .s b => binS op a b
  | _, _ => none

def unD (op : UnOp) (x : DV) : Option DV :=
  match op, x with
  | .not, .b a => some (.b (!a))
  | .neg, .i a => some (.i (wr (0 - a)))
  | _, _ => none

/-- What a slice value holds, if it can be read. -/
def elems (ob : OB) : DV → Option (List DV)
  | .sl _ es => some es
  | .nil => some []
  | .own k n lo hi => match lookO ob k with
    | some es => if es.length = n ∧ lo ≤ hi ∧ hi ≤ n then some ((es.take hi).drop lo) else none
    | none => none
  | _ => none

def wholeP (n lo hi : Nat) : Nat := if lo = 0 ∧ hi = n then 1 else 3
/-- A value that is to lie in a cell: an owned slice is given up. -/
def settle (ob : OB) : DV → Option (DV × OB)
  | .own k n lo hi => match elems ob (.own k n lo hi) with
    | some es => if k % 8 == 7 then none else some (.sl (wholeP n lo hi) es, dropO ob k)
    | none => none
  | .nil => some (.sl 1 [], ob)
  | .i n => some (.i n, ob)
  | .y n => some (.y n, ob)
  | .b n => some (.b n, ob)
  | .s n => some (.s n, ob)
  | .st cs => some (.st cs, ob)
  | .sl p es => some (.sl p es, ob)
  | _ => none
def settleL (ob : OB) : List DV → Option (List DV × OB)
  | [] => some ([], ob)
  | d :: ds => match settle ob d with
    | some (e, ob1) => match settleL ob1 ds with
      | some (es, ob2) => some (e :: es, ob2)
      | none => none
    | none => none

def part (cs : List DV) (off sz : Nat) (agg : Bool) : Option DV :=
  if agg then (if off + sz ≤ cs.length then some (.st ((cs.drop off).take sz)) else none) else cs[off]?

/-- Cells laid over cells, from 'off' on. -/
def over (cs : List DV) (off : Nat) (vs : List DV) : List DV := cs.take off ++ vs ++ cs.drop (off + vs.length)

def unpart (e : DV) (cs : List DV) : DV :=
  match e with
  | .st _ => .st cs
  | _ => cs.headD .dead

def fillP : List DV → List (Nat × Nat) → List DV → Option (List DV)
  | cs, [], [] => some cs
  | cs, (off, sz) :: ps, v :: vs => if v.cells.length = sz ∧ off + sz ≤ cs.length then fillP (over cs off v.cells) ps vs else none
  | _, _, _ => none

def fillE (sz : Nat) : List DV → List Nat → List DV → Option (List DV)
  | es, [], [] => some es
  | es, i :: ps, v :: vs => if i < es.length ∧ v.cells.length = sz then fillE sz (es.set i v) ps vs else none
  | _, _, _ => none

/-- What may be handed to a callee. -/
def lendArg (ob : OB) : DV → Option DV
  | .own k n lo hi => (elems ob (.own k n lo hi)).map fun es => .sl 0 (lendL es)
  | .nil => some (.sl 0 [])
  | .oad k n 0 0 => match lookO ob k with
    | some [c] => if n = 1 then some (.ref c.lend) else none
    | _ => none
  | .i n => some (.i n)
  | .y n => some (.y n)
  | .b n => some (.b n)
  | .s n => some (.s n)
  | .st cs => some (.st (lendL cs))
  | .sl _ es => some (.sl 0 (lendL es))
  | _ => none
def lendArgs (ob : OB) : List DV → Option (List DV)
  | [] => some []
  | d :: ds => match lendArg ob d with
    | some e => match lendArgs ob ds with
      | some es => some (e :: es)
      | none => none
    | none => none
/-- The objects that are handed over by their addresses, and those that are lent to be read. -/
def refKs : List DV → List Nat
  | [] => []
  | .oad k _ _ _ :: ds => k :: refKs ds
  | _ :: ds => refKs ds
def ownKs : List DV → List Nat
  | [] => []
  | .own k _ _ _ :: ds => k :: ownKs ds
  | _ :: ds => ownKs ds
def apartKs : List Nat → List Nat → Bool
  | [], _ => true
  | k :: ks, os => !ks.contains k && !os.contains k && apartKs ks os
def lendsOwn : List DV → Bool
  | [] => false
  | .own .. :: _ => true
  | _ :: ds => lendsOwn ds

def DV.mentions (id : Nat) : DV → Bool
  | .own k _ _ _ | .oad k _ _ _ => k == id
  | .tup ds => ds.any fun | .own k _ _ _ | .oad k _ _ _ => k == id | _ => false
  | _ => false
def Env.mentions (id : Nat) (e : Env) : Bool := e.any fun p => p.2.mentions id

/-- A callee's result, taken in by the caller. -/
def takeIn (o : Bool) (fr : Nat → Bool) (ob : OB) (id : Nat) : DV → Option (DV × OB)
  | .fr sz es => if fr (id + 8 * sz) && szId (id + 8 * sz) == sz then some (.own (id + 8 * sz) es.length 0 es.length, putO ob (id + 8 * sz) (adoptL o es)) else none
  | .ref c => if fr (id + 8 * c.cells.length) && szId (id + 8 * c.cells.length) == c.cells.length then some (.oad (id + 8 * c.cells.length) 1 0 0, putO ob (id + 8 * c.cells.length) [c.adopt o]) else none
  | .i n => some (.i n, ob)
  | .y n => some (.y n, ob)
  | .b n => some (.b n, ob)
  | .s n => some (.s n, ob)
  | .st cs => some (.st (adoptL o cs), ob)
  | .sl p es => some ((DV.sl p es).adopt o, ob)
  | .np => some (.np, ob)
  | _ => none
def takeInL (o : Bool) (fr : Nat → Bool) (ob : OB) (id : Nat) : List DV → Option (List DV × OB)
  | [] => some ([], ob)
  | d :: ds => match takeIn o fr ob id d with
    | some (e, ob1) => match takeInL o (fun j => fr j && !(DV.mentions j e)) ob1 (id + 1) ds with
      | some (es, ob2) => some (e :: es, ob2)
      | none => none
    | none => none
/-- The variables that a callee was handed by their addresses. -/
def putRefs (o : Bool) (ob : OB) : List DV → List DV → Option OB
  | [], [] => some ob
  | .oad k _ _ _ :: ds, c :: cs => putRefs o (putO ob k [c.adopt o]) ds cs
  | .oad .. :: _, [] => none
  | _ :: ds, cs => putRefs o ob ds cs
  | [], _ :: _ => none

/-- Is all that is lent from before? -/
def oldArg (ob : OB) : DV → Bool
  | .nil => true
  | .oad k _ _ _ => match lookO ob k with
    | some cs => allOldL cs
    | none => false
  | .i _ | .y _ | .b _ | .s _ => true
  | .st cs => allOldL cs
  | .sl p es => p == 0 && allOldL es
  | _ => false
def oldArgs (ob : OB) : List DV → Bool
  | [] => true
  | d :: ds => oldArg ob d && oldArgs ob ds

def newRes : DV → Bool
  | .fr _ es => allNewL es
  | .ref c => c.allNew
  | .tup ds => go ds
  | d => d.allNew
where go : List DV → Bool
  | [] => true
  | .fr _ es :: ds => allNewL es && go ds
  | .ref c :: ds => c.allNew && go ds
  | d :: ds => d.allNew && go ds

def newOuts : List DV → Bool
  | [] => true
  | d :: ds => d.allNew && newOuts ds

abbrev Fns := Nat → List DV → Option (DV × List DV)

def callD (Γ : Fns) (fr : Nat → Bool) (f id : Nat) (xs : List DV) (ob : OB) : Option (DV × OB) :=
  match lendArgs ob xs with
  | none => none
  | some as => match Γ f as with
    | none => none
    | some (r, outs) =>
      if !(lendsOwn xs && !(newRes r && newOuts outs)) && apartKs (refKs xs) (ownKs xs) then
        match putRefs (oldArgs ob xs) ob xs outs with
        | none => none
        | some ob1 => match r with
          | .tup ds => match takeInL (oldArgs ob xs) fr ob1 (id + 1) ds with
            | some (es, ob2) => some (.tup es, ob2)
            | none => none
          | d => takeIn (oldArgs ob xs) fr ob1 id d
      else none

def sliceS (l : List UInt8) (lo hi : Option Int) : Option DV :=
  let h := hi.getD l.length
  let a := lo.getD 0
  if 0 ≤ a ∧ a ≤ h ∧ h ≤ l.length then some (.s ((l.take h.toNat).drop a.toNat)) else none
def cutP (p : Nat) : Nat := if p = 1 then 3 else p
def sliceD (ob : OB) (x : DV) (sz : Nat) (lo hi : Option Int) : Option DV :=
  match x with
  | .sl p es =>
    let h := hi.getD es.length
    let a := lo.getD 0
    if 0 ≤ a ∧ a ≤ h ∧ h ≤ es.length ∧ ∀ e ∈ es, e.cells.length = sz then some (.sl (cutP p) ((es.take h.toNat).drop a.toNat)) else none
  | .own k n l0 h0 => match lookO ob k with
    | some es => if es.length = n ∧ l0 ≤ h0 ∧ h0 ≤ n ∧ szId k = sz then
        let h := hi.getD (h0 - l0 : Nat)
        let a := lo.getD 0
        if 0 ≤ a ∧ a ≤ h ∧ h ≤ (h0 - l0 : Nat) then some (.own k n (l0 + a.toNat) (l0 + h.toNat)) else none
      else none
    | none => none
  | _ => none
def bounds (lo hi : Bool) (r : List DV) : Option (Option Int × Option Int) :=
  match lo, hi, r with
  | false, false, [] => some (none, none)
  | true, false, [.i a] => some (some a, none)
  | false, true, [.i h] => some (none, some h)
  | true, true, [.i a, .i h] => some (some a, some h)
  | _, _, _ => none

def asI : DV → Option Int
  | .i n => some n
  | _ => none

/-- One operation on values: what it leaves in its slot, and the objects behind it. -/
def effP (fr : Nat → Bool) (k : K) (xs : List DV) (ob : OB) : Option (DV × OB) :=
  match k with
  | .mv => match xs with
    | [x] => some (x, ob)
    | _ => none
  | .newnil id => match xs with
    | [] => if fr id then some (.own id 0 0 0, putO ob id []) else none
    | _ => none
  | .pick => match xs with
    | [.b c, x, y] => some (if c then x else y, ob)
    | _ => none
  | .bin op => match xs with
    | [x, y] => (binD op x y).map (·, ob)
    | _ => none
  | .eqb g => match xs with
    | [.b x, .b y] => some (.b (xor g (x == y)), ob)
    | _ => none
  | .eqs g n => match xs with
    | [.st xs, .st ys] => if xs.length = n ∧ ys.length = n then (eqI xs ys).map fun r => (.b (xor g r), ob) else none
    | _ => none
  | .un op => match xs with
    | [x] => (unD op x).map (·, ob)
    | _ => none
  | .lens => match xs with
    | [.s l] => some (.i l.length, ob)
    | _ => none
  | .len => match xs with
    | [.sl _ es] => some (.i es.length, ob)
    | [.own _ _ lo hi] => some (.i (hi - lo : Nat), ob)
    | [.nil] => some (.i 0, ob)
    | _ => none
  | .chk => match xs with
    | [.adr d] => some (.adr d, ob)
    | [.oad k n a o] => some (.oad k n a o, ob)
    | _ => none
  | .fld off sz agg => match xs with
    | [.adr d] => (part d.cells off sz agg).map (.adr ·, ob)
    | [.oad k n a o] => some (.oad k n a (o + off), ob)
    | _ => none
  | .fldv off sz agg => match xs with
    | [.st cs] => (part cs off sz agg).map (·, ob)
    | _ => none
  | .idxa sz => match xs with
    | [.sl _ es, .i n] => if 0 ≤ n then match es[n.toNat]? with
        | some e => if e.cells.length = sz then some (.adr e, ob) else none
        | none => none
      else none
    | [.own k m lo hi, .i n] => match elems ob (.own k m lo hi) with
      | some es => if szId k = sz ∧ 0 ≤ n ∧ n < es.length then some (.oad k m (lo + n.toNat) 0, ob) else none
      | none => none
    | _ => none
  | .idx => match xs with
    | [.s l, .i n] => if 0 ≤ n then (l[n.toNat]?).map (.y ·.toNat, ob) else none
    | _ => none
  | .load sz agg => match xs with
    | [.adr d] => (match d with | .st cs => if agg && cs.length == sz then some d else none | _ => if agg then none else some d).map (·, ob)
    | [.oad k n a o] => match lookO ob k with
      | some es => if es.length = n then match es[a]? with
          | some e => (part e.cells o sz agg).map (·, ob)
          | none => none
        else none
      | none => none
    | _ => none
  | .store sz => match xs with
    | [.oad k n a o, v] => match settle ob v with
      | some (v', ob1) => match lookO ob1 k with
        | some es => if es.length = n ∧ v'.cells.length = sz then match es[a]? with
            | some e => if o + sz ≤ e.cells.length then some (.dead, putO ob1 k (es.set a (unpart e (over e.cells o v'.cells)))) else none
            | none => none
          else none
        | none => none
      | none => none
    | _ => none
  | .slice lo hi sz => match xs with
    | x :: r => match bounds lo hi r with
      | some (a, h) => (sliceD ob x sz a h).map (·, ob)
      | none => none
    | _ => none
  | .slices lo hi => match xs with
    | .s l :: r => match bounds lo hi r with
      | some (a, h) => (sliceS l a h).map (·, ob)
      | none => none
    | _ => none
  | .make id _ z => match xs with
    | [.i n, .i c] => if fr id ∧ 0 ≤ n ∧ n ≤ c ∧ c ≤ bound then some (.own id n.toNat 0 n.toNat, putO ob id (List.replicate n.toNat z)) else none
    | _ => none
  | .alloc id z => match xs with
    | [] => if fr id then some (.oad id 1 0 0, putO ob id [z]) else none
    | _ => none
  | .box id => match xs with
    | [v] => match settle ob v with
      | some (v', ob1) => if fr id ∧ v'.cells.length = szId id then some (.oad id 1 0 0, putO ob1 id [v']) else none
      | none => none
    | _ => none
  | .build z ps => match xs with
    | xs => match settleL ob xs with
      | some (vs, ob1) => (fillP z ps vs).map fun cs => (.st cs, ob1)
      | none => none
  | .bslice id len sz z ps => match xs with
    | xs => match settleL ob xs with
      | some (vs, ob1) => if fr id then (fillE sz (List.replicate len z) ps vs).map fun es => (.own id len 0 len, putO ob1 id es) else none
      | none => none
  | .app id sz => match xs with
    | [s, x] => match elems ob x with
      | some news => if ∀ e ∈ news, e.cells.length = sz then
          match s with
          | .nil => if fr id ∧ szId id = sz ∧ news.length ≤ bound then some (.own id news.length 0 news.length, putO ob id news) else none
          | .own k n 0 h => match lookO ob k with
            | some es => if k % 8 ≠ 7 ∧ szId k = sz ∧ es.length = n ∧ h = n ∧ n + news.length ≤ bound then some (.own k (n + news.length) 0 (n + news.length), putO ob k (es ++ news)) else none
            | none => none
          | _ => none
        else none
      | none => none
    | _ => none
  | .conv .b2i _ => match xs with
    | [.y n] => some (.i n, ob)
    | _ => none
  | .conv .i2b _ => match xs with
    | [.i n] => some (.y (wr8 n), ob)
    | _ => none
  | .conv .i2i _ => match xs with
    | [.i n] => some (.i (wr n), ob)
    | _ => none
  | .conv .same _ => match xs with
    | [.s l] => some (.s l, ob)
    | _ => none
  | .ext j => match xs with
    | [.tup ds] => (ds[j]?).map (·, ob)
    | _ => none
  | .mm mx => match xs with
    | [.i a, .i b] => some (.i (if mx then max a b else min a b), ob)
    | _ => none
  | .idxp len sz => match xs with
    | [.oad k n a o, .i i] => if 0 ≤ i ∧ i < len then some (.oad k n a (o + i.toNat * sz), ob) else none
    | _ => none
  | _ => none
def eff (Γ : Fns) (fr : Nat → Bool) (k : K) (xs : List DV) (ob : OB) : Option (DV × OB) :=
  match k with
  | .call f id => callD Γ fr f id xs ob
  | k => effP fr k xs ob

def putD (e : Env) (d : Option Nat) (v : DV) : Env := match d with
  | some x => put e x v
  | none => e

def stepL (Γ : Fns) (o : LOp) (S : LS) : Option LS :=
  let go : Option LS := match eff Γ (fun id => !(id % 8 == 7) && !Env.mentions id S.sl) o.k (o.args.map S.get) S.ob with
    | some (v, ob) => some { sl := putD S.sl o.dst v, ob }
    | none => none
  match o.g with
  | none => go
  | some (t, want) => match look S.sl t with
    | .b x => if x = want then go else some { S with sl := putD S.sl o.dst .und }
    | .und => some { S with sl := putD S.sl o.dst .und }
    | _ => none

def runL (Γ : Fns) : List LOp → LS → Option LS
  | [], S => some S
  | o :: os, S => match stepL Γ o S with
    | some S1 => runL Γ os S1
    | none => none

def DV.noM : DV → Bool
  | .own .. | .oad .. | .tup _ => false
  | _ => true
def K.isW : K → Bool
  | .newnil _ | .store _ | .make .. | .alloc .. | .box _ | .build .. | .bslice .. | .app .. | .call .. => true
  | .conv .b2s _ | .conv .s2b _ => true
  | _ => false
def Opd.ment (S : LS) (k : Nat) : Opd → Bool
  | .t n => (look S.sl n).mentions k
  | .c _ => false
/-- What the result speaks of is spoken of by an argument. -/
def subM (S : LS) (args : List Opd) : DV → Bool
  | .own k _ _ _ | .oad k _ _ _ => args.any (Opd.ment S k)
  | .tup _ => false
  | _ => true
/-- What lay in the slot before is still spoken of. -/
def oldOk (o : LOp) (S : LS) (d : DV) : Bool := match o.dst with
  | some x => match look S.sl x with
    | .own k _ _ _ | .oad k _ _ _ => d.mentions k
    | .tup _ => false
    | _ => true
  | none => true
def quietGo (o : LOp) (S : LS) : Bool := match effP (fun _ => false) o.k (o.args.map S.get) [] with
  | some (d, _) => subM S o.args d && oldOk o S d
  | none => false
def quiet (o : LOp) (S : LS) : Bool := match o.g with
  | none => quietGo o S
  | some (t, want) => match look S.sl t with
    | .b x => if x = want then quietGo o S else oldOk o S .und
    | _ => oldOk o S .und
def wquietGo (o : LOp) (S : LS) : Bool := match effP (fun _ => false) o.k (o.args.map S.get) S.ob with
  | some (d, _) => subM S o.args d && oldOk o S d
  | none => false
def wquiet (o : LOp) (S : LS) : Bool := match o.g with
  | none => wquietGo o S
  | some (t, want) => match look S.sl t with
    | .b x => if x = want then wquietGo o S else oldOk o S .und
    | _ => oldOk o S .und
/-- It changes no object that is there. -/
def addsK (k : K) (xs : List DV) : Bool := match k with
  | .newnil _ | .make .. | .alloc .. => true
  | .box _ | .build .. | .bslice .. => (ownKs xs).isEmpty
  | .call .. => (refKs xs).isEmpty
  | _ => false
def adds (o : LOp) (S : LS) : Bool := match o.g with
  | none => addsK o.k (o.args.map S.get)
  | some (t, want) => match look S.sl t with
    | .b x => if x = want then addsK o.k (o.args.map S.get) else true
    | _ => true
inductive Mode where
  | free | strong | weak | foot (L : List Nat)
/-- The objects that it changes. -/
def hitK (k : K) (xs : List DV) : List Nat := match k with
  | .box _ | .build .. | .bslice .. => ownKs xs
  | .call .. => refKs xs
  | .app .. => ownKs (xs.take 1)
  | .store _ => refKs (xs.take 1) ++ ownKs xs
  | _ => []
def clearL (L ks : List Nat) : Bool := ks.all fun k => !L.contains k
def clears (L : List Nat) (o : LOp) (S : LS) : Bool := match o.g with
  | none => clearL L (hitK o.k (o.args.map S.get))
  | some (t, want) => match look S.sl t with
    | .b x => if x = want then clearL L (hitK o.k (o.args.map S.get)) else true
    | _ => true
def inL (L : List Nat) : DV → Bool
  | .own k _ _ _ | .oad k _ _ _ => L.contains k
  | .tup _ => false
  | _ => true
def argsIn (L : List Nat) (xs : List DV) : Bool := xs.all (inL L)
def ownIds : Env → List Nat
  | [] => []
  | (_, .own k _ _ _) :: r => k :: ownIds r
  | _ :: r => ownIds r
def okStep (q : Mode) (o : LOp) (S : LS) : Bool := match q with
  | .free => true
  | .strong => o.k.isW || quiet o S
  | .weak => if o.k.isW then adds o S else wquiet o S
  | .foot L => if o.k.isW then clears L o S else quiet o S || (wquiet o S && argsIn L (o.args.map S.get))
def runD (Γ : Fns) (q : Mode) : List LOp → LS → Option LS
  | [], S => some S
  | o :: os, S => if okStep q o S = true then match stepL Γ o S with
      | some S1 => runD Γ q os S1
      | none => none
    else none
def modeOf (ops : List LOp) : Mode := if ops.any (fun o => o.k.isW) = true then .strong else .free
def runR (Γ : Fns) (d : Bool) (ops : List LOp) (S : LS) : Option LS := match d with
  | false => runL Γ ops S
  | true => match runD Γ (modeOf ops) ops S with
    | some S1 => some S1
    | none => match runD Γ .weak ops S with
      | some S1 => some S1
      | none => runD Γ (.foot (ownIds S.sl)) ops S

def killE (ks : List Nat) (e : Env) : Env := e.filter fun p => !ks.contains p.1
def sweep (e : Env) (ob : OB) : OB := ob.filter fun p => Env.mentions p.1 e

def LS.drop (S : LS) (kill : List Nat) : LS := match kill with
  | [] => S
  | _ => { sl := killE kill S.sl, ob := sweep (killE kill S.sl) S.ob }

def regionL (Γ : Fns) (d : Bool) (ops : List LOp) (kill : List Nat) (S : LS) : Option LS :=
  match runR Γ d ops S with
  | some S1 => some (S1.drop kill)
  | none => none

/-- It speaks of no new memory but by its number. -/
def DV.aside : DV → Bool
  | .adr _ | .tup _ | .ref _ | .fr .. => false
  | .st cs => allOldL cs
  | .sl p es => p == 0 && allOldL es
  | _ => true
def asideE (t : Nat) : Env → Bool
  | [] => true
  | (k, d) :: r => (k == t || d.aside) && asideE t r
def asideO : OB → Bool
  | [] => true
  | (_, es) :: r => allOldL es && asideO r

def ghostL : Ghost → LS → Option LS
  | .promote t id, S => match look S.sl t with
    | .sl 1 (e :: es) => if id % 8 ≠ 7 ∧ 0 < szId id ∧ szId id = e.cells.length ∧ Env.mentions id S.sl = false ∧ asideE t S.sl = true ∧ asideO S.ob = true ∧ allOldL (e :: es) = true then
        some { sl := put S.sl t (.own id (es.length + 1) 0 (es.length + 1)), ob := putO S.ob id (e :: es) } else none
    | _ => none
  | .rename t id, S => match look S.sl t with
    | .own k n lo hi => if k = id then some S else match lookO S.ob k with
      | some es => if k % 8 ≠ 7 ∧ id % 8 ≠ 7 ∧ szId k = szId id ∧ es.length = n ∧ Env.mentions id S.sl = false then
          some { sl := put S.sl t (.own id n lo hi), ob := putO (dropO S.ob k) id es } else none
      | none => none
    | _ => some S
  | .freeze t, S => match look S.sl t with
    | .own k n lo hi => match elems S.ob (.own k n lo hi) with
      | some es => if k % 8 == 7 then none else some { sl := put S.sl t (.sl (wholeP n lo hi) es), ob := dropO S.ob k }
      | none => none
    | _ => none

def iter : Nat → (LS → Option (Ex × LS)) → LS → Option (Ex × LS)
  | 0, _, _ => none
  | n + 1, f, S => match f S with
    | some (.normal, S1) => iter n f S1
    | r => r

def exec (Γ : Fns) (n : Nat) : LC → LS → Option (Ex × LS)
  | .skip, S => some (.normal, S)
  | .ret, S => some (.ret, S)
  | .exit id, S => some (.exit id, S)
  | .region d ops kill, S => (regionL Γ d ops kill S).map (.normal, ·)
  | .seq a b, S => match exec Γ n a S with
    | some (.normal, S1) => exec Γ n b S1
    | r => r
  | .cond c kill x y, S => match S.get c with
    | .b true => exec Γ n x (S.drop kill)
    | .b false => exec Γ n y (S.drop kill)
    | _ => none
  | .block id b, S => match exec Γ n b S with
    | some (.exit j, S1) => if j = id then some (.normal, S1) else some (.exit j, S1)
    | r => r
  | .loop b, S => iter n (exec Γ n b) S
  | .ghost g c, S => match ghostL g S with
    | some S1 => exec Γ n c S1
    | none => none

inductive ResL where
  | t (n : Nat)
  | c (n sz : Nat) (agg : Bool)

structure LF where
  body : LC
  nparams : Nat
  results : List ResL

/-- The frame in which a call begins. -/
def enter : Nat → List DV → LS → LS
  | _, [], S => S
  | j, .ref c :: ds, S => enter (j + 1) ds { sl := put S.sl j (.oad (mkId j c.cells.length 7) 1 0 0), ob := putO S.ob (mkId j c.cells.length 7) [c] }
  | j, d :: ds, S => enter (j + 1) ds { S with sl := put S.sl j d }

/-- What a call hands back. -/
def giveBack (ob : OB) : DV → Option (DV × OB)
  | .own k n lo hi => match lookO ob k with
    | some es => if k % 8 ≠ 7 ∧ es.length = n ∧ lo = 0 ∧ hi = n then some (.fr (szId k) es, dropO ob k) else none
    | none => none
  | .oad k n 0 0 => match lookO ob k with
    | some [c] => if k % 8 ≠ 7 ∧ n = 1 then some (.ref c, dropO ob k) else none
    | _ => none
  | .nil => some (.sl 1 [], ob)
  | .i n => some (.i n, ob)
  | .y n => some (.y n, ob)
  | .b n => some (.b n, ob)
  | .s n => some (.s n, ob)
  | .st cs => some (.st cs, ob)
  | .sl p es => some (.sl p es, ob)
  | .np => some (.np, ob)
  | _ => none
def giveBackL (ob : OB) : List DV → Option (List DV × OB)
  | [] => some ([], ob)
  | d :: ds => match giveBack ob d with
    | some (e, ob1) => match giveBackL ob1 ds with
      | some (es, ob2) => some (e :: es, ob2)
      | none => none
    | none => none
/-- What the variables hold that came in by their addresses. -/
def outs (ob : OB) : Nat → List DV → Option (List DV)
  | _, [] => some []
  | j, .ref c0 :: ds => match lookO ob (mkId j c0.cells.length 7) with
    | some [c] => match outs ob (j + 1) ds with
      | some cs => some (c :: cs)
      | none => none
    | _ => none
  | j, _ :: ds => outs ob (j + 1) ds

def resV (S : LS) : List ResL → Option (List DV)
  | [] => some []
  | .t n :: rs => (resV S rs).map (look S.sl n :: ·)
  | .c n sz agg :: rs => match effP (fun _ => false) (.load sz agg) [look S.sl n] S.ob with
    | some (d, _) => (resV S rs).map (d :: ·)
    | none => none

def leave (F : LF) (args : List DV) (S : LS) : Option (DV × List DV) :=
  match resV S F.results with
  | none => none
  | some vs => match giveBackL S.ob vs with
    | none => none
    | some (rs, ob) => match outs ob 0 args with
      | none => none
      | some cs => some (match rs with | [r] => r | rs => .tup rs, cs)

def callN (lf : Nat → Option LF) : Nat → Fns
  | 0, _, _ => none
  | n + 1, f, args => match lf f with
    | none => none
    | some F => if args.length = F.nparams then
        match exec (callN lf n) n F.body (enter 0 args ⟨[], []⟩) with
        | some (.normal, S) | some (.ret, S) => leave F args S
        | _ => none
      else none
end Go.Lg
