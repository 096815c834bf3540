/- Part 14 of a logical reading of translated Go: what a frame holds is said by lists, and each operation is proved against the model. No conditions. -/
import Derived.Test.YtadlmpjlkfbnfacLg13
namespace Go.Lg
open Go.RowKit
set_option linter.unusedVariables false

def intFields (P : Program) : Nat → List Field → Bool
  | _, [] => true
  | k, f :: fs => f.name != "_" && f.offset == k && (match P.underlying f.type with | some (.int _) => true | _ => false) && intFields P (k + 1) fs
def intStruct (P : Program) (t : TypeId) (n : Nat) : Bool :=
  match P.underlying t with
  | some (.struct fs) => !P.stoodInHeld t && !P.eqGuardType P.depth t && fs.size == n && intFields P 0 fs.toList
  | _ => false

section
variable {P : Program} {c : Cx} {fr : Nat → Bool} {w : World} {O : OM} {ob ob' : OB} {o : Oper} {ρ : Operand → Value}

theorem eqFields_ok {B : Nat} {ok : Nat → Prop} (d : Nat) {xs ys : Array Value} {cs ds : List DV} (hx : CRs w B ok cs xs.toList) (hy : CRs w B ok ds ys.toList) : ∀ (fs : List Field) (k : Nat) {r : Bool}, intFields P k fs = true →
    (cs.drop k).length = fs.length → (ds.drop k).length = fs.length → eqI (cs.drop k) (ds.drop k) = some r → (Op.eqFields (d + 1) xs ys fs).run P w = .ok r w
  | [], k, r, _, h1, h2, h => by
    have e1 : cs.drop k = [] := List.eq_nil_of_length_eq_zero h1
    have e2 : ds.drop k = [] := List.eq_nil_of_length_eq_zero h2
    rw [e1, e2] at h
    simp only [eqI, Option.some.injEq] at h
    subst h
    rfl
  | f :: fs, k, r, hf, h1, h2, h => by
    simp only [intFields, Bool.and_eq_true, bne_iff_ne, beq_iff_eq] at hf
    obtain ⟨⟨⟨hn, hoff⟩, hu⟩, hrest⟩ := hf
    subst hoff
    have hk1 : f.offset < cs.length := by simp at h1; omega
    have hk2 : f.offset < ds.length := by simp at h2; omega
    rw [List.drop_eq_getElem_cons hk1, List.drop_eq_getElem_cons hk2] at h
    have g1 := List.getElem?_eq_getElem hk1
    have g2 := List.getElem?_eq_getElem hk2
    generalize hc : cs[f.offset] = x at h g1
    generalize hd : ds[f.offset] = y at h g2
    obtain ⟨u, hu1, hcu⟩ := hx.get g1
    obtain ⟨v, hv1, hcv⟩ := hy.get g2
    cases x <;> cases y <;> simp only [eqI] at h <;> try (cases h; done)
    rename_i a b
    cases hcu
    cases hcv
    have p1 : xs[f.offset]? = some (.int .i64 a) := by simpa using hu1
    have p2 : ys[f.offset]? = some (.int .i64 b) := by simpa using hv1
    split at hu
    · rename_i kk hun
      have hagg : (isAgg f.type).run P w = .ok false w := by simp [isAgg, run_underlying hun]
      have q1 : (Go.part f.type xs f.offset).run P w = .ok (.int .i64 a) w := by simp [Go.part, hagg, p1]
      have q2 : (Go.part f.type ys f.offset).run P w = .ok (.int .i64 b) w := by simp [Go.part, hagg, p2]
      simp only [Op.eqFields, Sem.run_ite, if_pos hn, Sem.run_bind, q1, q2, Result.andThen_ok, run_equalIn_int w d f.type .i64 kk a b hun]
      by_cases hab : a = b
      · subst hab
        simp only [beq_self_eq_true, if_true] at h
        simp only [beq_self_eq_true, Bool.not_true, Bool.false_eq_true, if_false]
        exact eqFields_ok d hx hy fs (f.offset + 1) hrest (by simp at h1 ⊢; omega) (by simp at h2 ⊢; omega) h
      · have hne : (a == b) = false := by simpa using hab
        simp only [hne, Bool.false_eq_true, if_false, Option.some.injEq] at h
        subst h
        simp only [hne, Bool.not_false, if_true]
        rfl
    · cases hu

theorem out_eqs (hm : MR c O ob w) {op : BinOp} {t yt : TypeId} {x y : Operand} (ho : o.op = .binOp op t x y yt) {g : Bool} (hop : op = if g then .neq else .eql) {n : Nat} (ht : intStruct P t n = true) {cs ds : List DV} (h1 : cs.length = n) (h2 : ds.length = n)
    (hx : VR w c.B (okb c.ok0 c.B O) O (.st cs) (ρ x)) (hy : VR w c.B (okb c.ok0 c.B O) O (.st ds) (ρ y)) {r : Bool} (he : eqI cs ds = some r) : Out P c fr w O ((execOp ρ o).run P w) (.b (xor g r)) ob := by
  obtain ⟨xs, hxv, hxc⟩ := hx.st'
  obtain ⟨ys, hyv, hyc⟩ := hy.st'
  unfold intStruct at ht
  split at ht
  · rename_i fs hu
    simp only [Bool.and_eq_true, Bool.not_eq_true', beq_iff_eq] at ht
    obtain ⟨⟨⟨hs1, hs2⟩, hs3⟩, hs4⟩ := ht
    have hfo : P.fieldsOf t = fs := by simp [Program.fieldsOf, hu]
    have hun : P.underlying t = some (.struct (P.fieldsOf t)) := by rw [hfo]; exact hu
    have heq : (Op.equalIn 10000 t (.agg xs) (.agg ys)).run P w = .ok r w := by
      rw [run_equalIn_agg w 9999 t xs ys hun hs1, hfo]
      exact eqFields_ok 9998 hxc hyc fs.toList 0 hs4 (by simp [h1, hs3]) (by simp [h2, hs3]) (by simpa using he)
    refine Out.same hm (v := .bool (xor g r)) ?_ (.mkB _)
    subst hop
    cases g <;> simp [execOp, ho, hxv, hyv, run_eqGuard_agg w _ t x y xs ys hs2, run_eql_struct, run_neq_struct, heq]
  · cases ht

theorem out_i2i (hm : MR c O ob w) {x : Operand} {s t : TypeId} (ho : o.op = .convert s t x) (hs : P.underlying s = some (.int .i64)) (ht : P.underlying t = some (.int .i64)) {n : Int} (hx : VR w c.B (okb c.ok0 c.B O) O (.i n) (ρ x)) : Out P c fr w O ((execOp ρ o).run P w) (.i (wr n)) ob := by
  refine Out.same hm (v := .int .i64 (wr n)) ?_ (.mkI _)
  simp [execOp, ho, hx.int, convert, run_underlying hs, run_underlying ht, Conv.intToInt, wr]
theorem out_s2s (hm : MR c O ob w) {x : Operand} {s t : TypeId} (ho : o.op = .convert s t x) (hs : P.underlying s = some .string) (ht : P.underlying t = some .string) {l : List UInt8} (hx : VR w c.B (okb c.ok0 c.B O) O (.s l) (ρ x)) : Out P c fr w O ((execOp ρ o).run P w) (.s l) ob := by
  refine Out.same hm (v := .string ⟨l.toArray⟩) ?_ (.mkS _)
  simp [execOp, ho, hx.str, convert, run_underlying hs, run_underlying ht]
end

/-! ### What an operation is, read off the translation -/
def isSlice (P : Program) (t : TypeId) : Bool := match P.underlying t with | some (.slice _) => true | _ => false
def viewBin (P : Program) (op : BinOp) (t : TypeId) : Option K :=
  match P.underlying t with
  | some (.int .i64) | some (.int .u8) | some .string => some (.bin op)
  | some .bool => match op with | .eql => some (.eqb false) | .neq => some (.eqb true) | _ => none
  | some (.struct fs) => if intStruct P t fs.size then (match op with | .eql => some (.eqs false fs.size) | .neq => some (.eqs true fs.size) | _ => none) else none
  | _ => none
def viewConv (P : Program) (s t : TypeId) (d : Nat) : Option K :=
  match P.underlying s, P.underlying t with
  | some (.int .u8), some (.int .i64) => some (.conv .b2i (512 * d))
  | some (.int .i64), some (.int .u8) => some (.conv .i2b (512 * d))
  | some (.int .i64), some (.int .i64) => some (.conv .i2i (512 * d))
  | some .string, some .string => some (.conv .same (512 * d))
  | _, _ => none
def idAt (d : Option Tmp) (sz : Nat) : Option Nat := match d with | some d => if 0 < sz ∧ sz < 64 then some (mkId d sz 0) else none | none => none
def loadInfo (P : Program) (t : TypeId) : Option (Nat × Bool) :=
  match szOf P t, aggOf P t with
  | some n, some g => if g = true ∨ n = 1 then some (n, g) else none
  | _, _ => none
def fieldInfo (P : Program) (t : TypeId) (f : Nat) : Option (Nat × Nat × Bool) :=
  match fieldOf P t f with
  | some (off, n, g) => if g = true ∨ n = 1 then some (off, n, g) else none
  | none => none
def elemSz (P : Program) (t : TypeId) : Option (TypeId × Nat) :=
  match elemT P t with
  | some e => (szOf P e).map (e, ·)
  | none => none
def viewCall (P : Program) (o : Oper) (cl : Call) : Option (K × List Operand) :=
  match cl.callee with
  | .value (.func f) => match o.dst with
    | some d => some (.call f (512 * d), cl.args.toList)
    | none => some (.call f 0, cl.args.toList)
  | .builtin .len => match cl.args.toList, cl.argTypes.toList with
    | [x], [t] => match P.underlying t with
      | some (.slice _) => some (.len, [x])
      | some .string => some (.lens, [x])
      | _ => none
    | _, _ => none
  | .builtin .append => match cl.args.toList, cl.argTypes.toList with
    | [x, y], [t, u] => if t = u then match elemT P t with
        | some e => match elemInfo P e with
          | some (sz, _) => (idAt o.dst sz).map fun id => (.app id sz, [x, y])
          | none => none
        | none => none
      else none
    | _, _ => none
  | .builtin .max => match cl.args.toList with
    | [x, y] => some (.mm true, [x, y])
    | _ => none
  | .builtin .min => match cl.args.toList with
    | [x, y] => some (.mm false, [x, y])
    | _ => none
  | _ => none
def arrOf (P : Program) (t : TypeId) : Option (Nat × Nat) := match P.underlying t with
  | some (.array len e) => (szOf P e).map (len, ·)
  | _ => none
def viewK (P : Program) (o : Oper) : Option (K × List Operand) :=
  match o.op with
  | .move x => some (.mv, [x])
  | .assign x => match x with
    | .const (.slice none 0 0) => match elemSz P o.type with
      | some (_, sz) => (idAt o.dst sz).map fun id => (.newnil id, [])
      | none => none
    | x => some (.mv, [x])
  | .pick x y z => some (.pick, [x, y, z])
  | .binOp op t x y _ => (viewBin P op t).map (·, [x, y])
  | .unOp op _ x => some (.un op, [x])
  | .call cl => viewCall P o cl
  | .nilCheck x => some (.chk, [x])
  | .fieldAddr t x f => (fieldInfo P t f).map fun i => (.fld i.1 i.2.1 i.2.2, [x])
  | .field t x f => (fieldInfo P t f).map fun i => (.fldv i.1 i.2.1 i.2.2, [x])
  | .indexAddr t x y => match arrOf P t with
    | some (len, sz) => some (.idxp len sz, [x, y])
    | none => (elemSz P t).map fun i => (.idxa i.2, [x, y])
  | .index t x y => match P.underlying t with
    | some .string => some (.idx, [x, y])
    | _ => none
  | .load t x => (loadInfo P t).map fun i => (.load i.1 i.2, [x])
  | .store t x y => (szOf P t).map fun n => (.store n, [x, y])
  | .slice t x lo hi mx => match mx with
    | none => match P.underlying t with
      | some .string => some (.slices lo.isSome hi.isSome, x :: (lo.toList ++ hi.toList))
      | some (.slice e) => (szOf P e).map fun n => (.slice lo.isSome hi.isSome n, x :: (lo.toList ++ hi.toList))
      | _ => none
    | some _ => none
  | .makeSlice t x y => match elemT P t with
    | some e => match zeroD P e with
      | some (sz, z) => (idAt o.dst sz).map fun id => (.make id sz z, [x, y])
      | none => none
    | none => none
  | .alloc e => match zeroD P e with
    | some (sz, z) => (idAt o.dst sz).map fun id => (.alloc id z, [])
    | none => none
  | .box e x => match szOf P e with
    | some sz => (idAt o.dst sz).map fun id => (.box id, [x])
    | none => none
  | .build t parts => if fieldSizes P t then match elemInfo P t with
      | some (_, zs) => (fieldsOf P t (parts.toList.map (·.1))).map fun ps => (.build zs ps, parts.toList.map (·.2))
      | none => none
    else none
  | .buildSlice t len parts => match elemT P t with
    | some e => match zeroD P e with
      | some (sz, z) => if len * sz ≤ 65536 then (idAt o.dst sz).map fun id => (.bslice id len sz z (parts.toList.map (·.1)), parts.toList.map (·.2)) else none
      | none => none
    | none => none
  | .convert s t x => match o.dst with
    | some d => (viewConv P s t d).map (·, [x])
    | none => none
  | .extract x j => some (.ext j, [x])
  | _ => none

def slotOf (ops : Array Oper) (j : Nat) : Option Nat := (ops[j]?).bind (·.dst)
def viewOp (P : Program) (ops : Array Oper) (o : Oper) : Option LOp :=
  match viewK P o with
  | some (k, xs) => match viewOpds xs with
    | some ys => match o.guard with
      | none => some ⟨o.dst, k, ys, none⟩
      | some (j, want) => match slotOf ops j with
        | some t => some ⟨o.dst, k, ys, some (t, want)⟩
        | none => none
    | none => none
  | none => none
def viewOps (P : Program) (ops : Array Oper) : List Oper → Option (List LOp)
  | [] => some []
  | o :: os => match viewOp P ops o with
    | some l => match viewOps P ops os with
      | some ls => some (l :: ls)
      | none => none
    | none => none
end Go.Lg
