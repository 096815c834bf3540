/- Part 32 of a logical reading of translated Go: what a frame holds is said by lists, and each operation is proved against the model. No conditions. -/
import Derived.Test.YtadlmpjlkfbnfacLg31
namespace Go.Lg
set_option linter.unusedSimpArgs false
set_option linter.unusedVariables false
set_option linter.unusedVariables false

/-! ### The steps of a region, one law an operation, so that simp reads them fast -/
def frOf (e : Env) (id : Nat) : Bool := !(id % 8 == 7) && !Env.mentions id e
def opv (e : Env) : Opd → DV
  | .t n => look e n
  | .c d => d
def nx (Γ : Fns) (os : List LOp) (e : Env) (d : Option Nat) : Option (DV × OB) → Option LS
  | some (v, ob) => runL Γ os ⟨putD e d v, ob⟩
  | none => none
def gate (x : DV) (want : Bool) (a b : Option LS) : Option LS := match x with
  | .b x => if x = want then a else b
  | .und => b
  | _ => none
theorem opv_t (e : Env) (n : Nat) : opv e (.t n) = look e n := rfl
theorem opv_c (e : Env) (d : DV) : opv e (.c d) = d := rfl
theorem nx_some (Γ : Fns) (os : List LOp) (e : Env) (d : Option Nat) (v : DV) (ob : OB) : nx Γ os e d (some (v, ob)) = runL Γ os ⟨putD e d v, ob⟩ := rfl
theorem nx_none (Γ : Fns) (os : List LOp) (e : Env) (d : Option Nat) : nx Γ os e d none = none := rfl
theorem gate_tt (a b : Option LS) : gate (.b true) true a b = a := rfl
theorem gate_tf (a b : Option LS) : gate (.b true) false a b = b := rfl
theorem gate_ft (a b : Option LS) : gate (.b false) true a b = b := rfl
theorem gate_ff (a b : Option LS) : gate (.b false) false a b = a := rfl
theorem gate_u (w : Bool) (a b : Option LS) : gate .und w a b = b := by cases w <;> rfl

section
variable (Γ : Fns) (os : List LOp) (e : Env) (ob : OB) (d : Nat)
theorem rl_nil (S : LS) : runL Γ [] S = some S := rfl
theorem rl_gate (k : K) (args : List Opd) (t : Nat) (w : Bool) : runL Γ (⟨some d, k, args, some (t, w)⟩ :: os) ⟨e, ob⟩ = gate (look e t) w (runL Γ (⟨some d, k, args, none⟩ :: os) ⟨e, ob⟩) (runL Γ os ⟨put e d .und, ob⟩) := by
  simp only [runL, stepL, gate]
  cases look e t <;> try rfl
  rename_i x
  by_cases h : x = w <;> simp [h, putD]
theorem rl_mv (a : Opd) : runL Γ (⟨some d, .mv, [a], none⟩ :: os) ⟨e, ob⟩ = runL Γ os ⟨put e d (opv e a), ob⟩ := by cases a <;> rfl
theorem rl_gen (dd : Option Nat) (k : K) (args : List Opd) : runL Γ (⟨dd, k, args, none⟩ :: os) ⟨e, ob⟩ = nx Γ os e dd (eff Γ (frOf e) k (args.map (opv e)) ob) := by
  have : (args.map (LS.get ⟨e, ob⟩)) = args.map (opv e) := by
    apply List.map_congr_left
    intro a _
    cases a <;> rfl
  have hf : (fun id => !(id % 8 == 7) && !Env.mentions id e) = frOf e := rfl
  simp only [runL, stepL, this, hf]
  cases eff Γ (frOf e) k (args.map (opv e)) ob <;> rfl
end

theorem fr_ap (e : Env) (id : Nat) : frOf e id = (!(id % 8 == 7) && !Env.mentions id e) := rfl
section
variable (id : Nat) (r : Env) (t : Nat)
theorem em_nil : Env.mentions id [] = false := rfl
theorem em_i (n : Int) : Env.mentions id ((t, .i n) :: r) = Env.mentions id r := rfl
theorem em_y (n : Nat) : Env.mentions id ((t, .y n) :: r) = Env.mentions id r := rfl
theorem em_b (n : Bool) : Env.mentions id ((t, .b n) :: r) = Env.mentions id r := rfl
theorem em_s (n : List UInt8) : Env.mentions id ((t, .s n) :: r) = Env.mentions id r := rfl
theorem em_st (n : List DV) : Env.mentions id ((t, .st n) :: r) = Env.mentions id r := rfl
theorem em_sl (p : Nat) (n : List DV) : Env.mentions id ((t, .sl p n) :: r) = Env.mentions id r := rfl
theorem em_own (k n lo hi : Nat) : Env.mentions id ((t, .own k n lo hi) :: r) = (k == id || Env.mentions id r) := rfl
theorem em_adr (n : DV) : Env.mentions id ((t, .adr n) :: r) = Env.mentions id r := rfl
theorem em_oad (k n lo hi : Nat) : Env.mentions id ((t, .oad k n lo hi) :: r) = (k == id || Env.mentions id r) := rfl
theorem em_ref (n : DV) : Env.mentions id ((t, .ref n) :: r) = Env.mentions id r := rfl
theorem em_nl : Env.mentions id ((t, .nil) :: r) = Env.mentions id r := rfl
theorem em_np : Env.mentions id ((t, .np) :: r) = Env.mentions id r := rfl
theorem em_und : Env.mentions id ((t, .und) :: r) = Env.mentions id r := rfl
theorem em_dead : Env.mentions id ((t, .dead) :: r) = Env.mentions id r := rfl
theorem em_tup0 : Env.mentions id ((t, .tup []) :: r) = Env.mentions id r := rfl
theorem em_tup_i (n : Int) (l : List DV) : Env.mentions id ((t, .tup (.i n :: l)) :: r) = Env.mentions id ((t, .tup l) :: r) := rfl
theorem em_tup_b (n : Bool) (l : List DV) : Env.mentions id ((t, .tup (.b n :: l)) :: r) = Env.mentions id ((t, .tup l) :: r) := rfl
theorem em_tup_s (n : List UInt8) (l : List DV) : Env.mentions id ((t, .tup (.s n :: l)) :: r) = Env.mentions id ((t, .tup l) :: r) := rfl
theorem em_tup_sl (p : Nat) (n : List DV) (l : List DV) : Env.mentions id ((t, .tup (.sl p n :: l)) :: r) = Env.mentions id ((t, .tup l) :: r) := rfl
theorem em_tup_st (n : List DV) (l : List DV) : Env.mentions id ((t, .tup (.st n :: l)) :: r) = Env.mentions id ((t, .tup l) :: r) := rfl
theorem em_tup_np (l : List DV) : Env.mentions id ((t, .tup (.np :: l)) :: r) = Env.mentions id ((t, .tup l) :: r) := rfl
theorem em_tup_own (k n lo hi : Nat) (l : List DV) : Env.mentions id ((t, .tup (.own k n lo hi :: l)) :: r) = (k == id || Env.mentions id ((t, .tup l) :: r)) := by
  show (((k == id) || _) || _) = _
  rw [Bool.or_assoc]; rfl
theorem em_tup_oad (k n lo hi : Nat) (l : List DV) : Env.mentions id ((t, .tup (.oad k n lo hi :: l)) :: r) = (k == id || Env.mentions id ((t, .tup l) :: r)) := by
  show (((k == id) || _) || _) = _
  rw [Bool.or_assoc]; rfl
end
section
variable (k : Nat)
theorem mm_i (n : Int) : DV.mentions k (.i n) = false := rfl
theorem mm_y (n : Nat) : DV.mentions k (.y n) = false := rfl
theorem mm_b (n : Bool) : DV.mentions k (.b n) = false := rfl
theorem mm_s (n : List UInt8) : DV.mentions k (.s n) = false := rfl
theorem mm_st (n : List DV) : DV.mentions k (.st n) = false := rfl
theorem mm_sl (p : Nat) (n : List DV) : DV.mentions k (.sl p n) = false := rfl
theorem mm_own (j n lo hi : Nat) : DV.mentions k (.own j n lo hi) = (j == k) := rfl
theorem mm_oad (j n lo hi : Nat) : DV.mentions k (.oad j n lo hi) = (j == k) := rfl
theorem mm_adr (n : DV) : DV.mentions k (.adr n) = false := rfl
theorem mm_nil : DV.mentions k .nil = false := rfl
theorem mm_np : DV.mentions k .np = false := rfl
theorem mm_und : DV.mentions k .und = false := rfl
theorem mm_dead : DV.mentions k .dead = false := rfl
end
section
variable (Γ : Fns) (fr : Nat → Bool) (ob : OB)
theorem ef_mv (x : DV) : eff Γ fr .mv [x] ob = some (x, ob) := rfl
theorem ef_newnil (id : Nat) : eff Γ fr (.newnil id) [] ob = if fr id then some (.own id 0 0 0, putO ob id []) else none := rfl
theorem ef_pickt (x y : DV) : eff Γ fr .pick [.b true, x, y] ob = some (x, ob) := rfl
theorem ef_pickf (x y : DV) : eff Γ fr .pick [.b false, x, y] ob = some (y, ob) := rfl
theorem ef_pick (c : Bool) (x y : DV) : eff Γ fr .pick [.b c, x, y] ob = some (if c then x else y, ob) := rfl
theorem ef_bin (op : BinOp) (x y : DV) : eff Γ fr (.bin op) [x, y] ob = (binD op x y).map (·, ob) := rfl
theorem ef_eqb (g x y : Bool) : eff Γ fr (.eqb g) [.b x, .b y] ob = some (.b (xor g (x == y)), ob) := rfl
theorem ef_eqs (g : Bool) (n : Nat) (xs ys : List DV) : eff Γ fr (.eqs g n) [.st xs, .st ys] ob = if xs.length = n ∧ ys.length = n then (eqI xs ys).map fun r => (.b (xor g r), ob) else none := rfl
theorem ef_un (op : UnOp) (x : DV) : eff Γ fr (.un op) [x] ob = (unD op x).map (·, ob) := rfl
theorem ef_lens (l : List UInt8) : eff Γ fr .lens [.s l] ob = some (.i l.length, ob) := rfl
theorem ef_len_sl (p : Nat) (es : List DV) : eff Γ fr .len [.sl p es] ob = some (.i es.length, ob) := rfl
theorem ef_len_own (k n lo hi : Nat) : eff Γ fr .len [.own k n lo hi] ob = some (.i (hi - lo : Nat), ob) := rfl
theorem ef_len_nil : eff Γ fr .len [.nil] ob = some (.i 0, ob) := rfl
theorem ef_chk_adr (d : DV) : eff Γ fr .chk [.adr d] ob = some (.adr d, ob) := rfl
theorem ef_chk_oad (k n a o : Nat) : eff Γ fr .chk [.oad k n a o] ob = some (.oad k n a o, ob) := rfl
theorem ef_fld_adr (off sz : Nat) (agg : Bool) (d : DV) : eff Γ fr (.fld off sz agg) [.adr d] ob = (part d.cells off sz agg).map (.adr ·, ob) := rfl
theorem ef_fld_oad (off sz : Nat) (agg : Bool) (k n a o : Nat) : eff Γ fr (.fld off sz agg) [.oad k n a o] ob = some (.oad k n a (o + off), ob) := rfl
theorem ef_fldv (off sz : Nat) (agg : Bool) (cs : List DV) : eff Γ fr (.fldv off sz agg) [.st cs] ob = (part cs off sz agg).map (·, ob) := rfl
def idxR (sz : Nat) (ob : OB) : Option DV → Option (DV × OB)
  | some e => if e.cells.length = sz then some (.adr e, ob) else none
  | none => none
theorem idxR_some (sz : Nat) (e : DV) : idxR sz ob (some e) = if e.cells.length = sz then some (.adr e, ob) else none := rfl
def atI (es : List DV) (n : Int) : Option DV := if 0 ≤ n then es[n.toNat]? else none
theorem ef_idxa_sl (sz p : Nat) (es : List DV) (n : Int) : eff Γ fr (.idxa sz) [.sl p es, .i n] ob = idxR sz ob (atI es n) := by
  show effP fr (.idxa sz) [.sl p es, .i n] ob = _
  simp only [effP, atI]
  split
  · cases es[n.toNat]? <;> rfl
  · rfl
theorem ef_idxa_own (sz k m lo hi : Nat) (n : Int) : eff Γ fr (.idxa sz) [.own k m lo hi, .i n] ob = match elems ob (.own k m lo hi) with
      | some es => if szId k = sz ∧ 0 ≤ n ∧ n < es.length then some (.oad k m (lo + n.toNat) 0, ob) else none
      | none => none := rfl
theorem ef_idx (l : List UInt8) (n : Int) : eff Γ fr .idx [.s l, .i n] ob = if 0 ≤ n then (l[n.toNat]?).map (.y ·.toNat, ob) else none := rfl
theorem ef_load_adr_st (sz : Nat) (cs : List DV) : eff Γ fr (.load sz true) [.adr (.st cs)] ob = if cs.length = sz then some (.st cs, ob) else none := by
  show effP fr (.load sz true) [.adr (.st cs)] ob = _
  simp only [effP, Bool.true_and, beq_iff_eq]
  split <;> rfl
theorem ef_load_adr_i (sz : Nat) (n : Int) : eff Γ fr (.load sz false) [.adr (.i n)] ob = some (.i n, ob) := rfl
theorem ef_load_adr_y (sz : Nat) (n : Nat) : eff Γ fr (.load sz false) [.adr (.y n)] ob = some (.y n, ob) := rfl
theorem ef_load_adr_b (sz : Nat) (n : Bool) : eff Γ fr (.load sz false) [.adr (.b n)] ob = some (.b n, ob) := rfl
theorem ef_load_adr_s (sz : Nat) (n : List UInt8) : eff Γ fr (.load sz false) [.adr (.s n)] ob = some (.s n, ob) := rfl
theorem ef_load_adr_sl (sz p : Nat) (n : List DV) : eff Γ fr (.load sz false) [.adr (.sl p n)] ob = some (.sl p n, ob) := rfl
def atN (es : List DV) (a : Nat) : Option DV := es[a]?
theorem atN_nil (a : Nat) : atN [] a = none := rfl
theorem atN_zero (x : DV) (xs : List DV) : atN (x :: xs) 0 = some x := rfl
theorem atN_succ (x : DV) (xs : List DV) (n : Nat) : atN (x :: xs) (n + 1) = atN xs n := rfl
theorem ef_load_oad (sz : Nat) (agg : Bool) (k n a o : Nat) : eff Γ fr (.load sz agg) [.oad k n a o] ob = match lookO ob k with
      | some es => if es.length = n then match atN es a with
          | some e => (part e.cells o sz agg).map (·, ob)
          | none => none
        else none
      | none => none := rfl
theorem ef_store (sz k n a o : Nat) (v : DV) : eff Γ fr (.store sz) [.oad k n a o, v] ob = match settle ob v with
      | some (v', ob1) => match lookO ob1 k with
        | some es => if es.length = n ∧ v'.cells.length = sz then match atN es a with
            | some e => if o + sz ≤ e.cells.length then some (.dead, putO ob1 k (es.set a (unpart e (over e.cells o v'.cells)))) else none
            | none => none
          else none
        | none => none
      | none => none := rfl
theorem ef_slice (lo hi : Bool) (sz : Nat) (x : DV) (r : List DV) : eff Γ fr (.slice lo hi sz) (x :: r) ob = match bounds lo hi r with
      | some (a, h) => (sliceD ob x sz a h).map (·, ob)
      | none => none := rfl
theorem ef_slices (lo hi : Bool) (l : List UInt8) (r : List DV) : eff Γ fr (.slices lo hi) (.s l :: r) ob = match bounds lo hi r with
      | some (a, h) => (sliceS l a h).map (·, ob)
      | none => none := rfl
theorem ef_make (id sz : Nat) (z : DV) (n c : Int) : eff Γ fr (.make id sz z) [.i n, .i c] ob = if fr id ∧ 0 ≤ n ∧ n ≤ c ∧ c ≤ bound then some (.own id n.toNat 0 n.toNat, putO ob id (List.replicate n.toNat z)) else none := rfl
theorem ef_alloc (id : Nat) (z : DV) : eff Γ fr (.alloc id z) [] ob = if fr id then some (.oad id 1 0 0, putO ob id [z]) else none := rfl
theorem ef_box (id : Nat) (v : DV) : eff Γ fr (.box id) [v] ob = match settle ob v with
      | some (v', ob1) => if fr id ∧ v'.cells.length = szId id then some (.oad id 1 0 0, putO ob1 id [v']) else none
      | none => none := rfl
theorem ef_build (z : List DV) (ps : List (Nat × Nat)) (xs : List DV) : eff Γ fr (.build z ps) xs ob = match settleL ob xs with
      | some (vs, ob1) => (fillP z ps vs).map fun cs => (.st cs, ob1)
      | none => none := rfl
theorem ef_bslice (id len sz : Nat) (z : DV) (ps : List Nat) (xs : List DV) : eff Γ fr (.bslice id len sz z ps) xs ob = match settleL ob xs with
      | some (vs, ob1) => if fr id then (fillE sz (List.replicate len z) ps vs).map fun es => (.own id len 0 len, putO ob1 id es) else none
      | none => none := rfl
theorem ef_app_own (id sz k n h : Nat) (x : DV) : eff Γ fr (.app id sz) [.own k n 0 h, x] ob = match elems ob x with
      | some news => if ∀ e ∈ news, e.cells.length = sz then match lookO ob k with
            | some es => if k % 8 ≠ 7 ∧ szId k = sz ∧ es.length = n ∧ h = n ∧ n + news.length ≤ bound then some (.own k (n + news.length) 0 (n + news.length), putO ob k (es ++ news)) else none
            | none => none
        else none
      | none => none := rfl
theorem ef_app_nil (id sz : Nat) (x : DV) : eff Γ fr (.app id sz) [.nil, x] ob = match elems ob x with
      | some news => if ∀ e ∈ news, e.cells.length = sz then (if fr id ∧ szId id = sz ∧ news.length ≤ bound then some (.own id news.length 0 news.length, putO ob id news) else none) else none
      | none => none := rfl
theorem ef_b2i (id n : Nat) : eff Γ fr (.conv .b2i id) [.y n] ob = some (.i n, ob) := rfl
theorem ef_i2b (id : Nat) (n : Int) : eff Γ fr (.conv .i2b id) [.i n] ob = some (.y (wr8 n), ob) := rfl
theorem ef_i2i (id : Nat) (n : Int) : eff Γ fr (.conv .i2i id) [.i n] ob = some (.i (wr n), ob) := rfl
theorem ef_same (id : Nat) (n : List UInt8) : eff Γ fr (.conv .same id) [.s n] ob = some (.s n, ob) := rfl
theorem ef_mmx (a b : Int) : eff Γ fr (.mm true) [.i a, .i b] ob = some (.i (max a b), ob) := rfl
theorem ef_mmn (a b : Int) : eff Γ fr (.mm false) [.i a, .i b] ob = some (.i (min a b), ob) := rfl
theorem ef_idxp (len sz k n a o : Nat) (i : Int) : eff Γ fr (.idxp len sz) [.oad k n a o, .i i] ob = if 0 ≤ i ∧ i < len then some (.oad k n a (o + i.toNat * sz), ob) else none := rfl
theorem ef_ext (j : Nat) (ds : List DV) : eff Γ fr (.ext j) [.tup ds] ob = (ds[j]?).map (·, ob) := rfl
def retC (o : Bool) (fr : Nat → Bool) (id : Nat) (ob : OB) : DV → Option (DV × OB)
  | .tup ds => match takeInL o fr ob (id + 1) ds with
    | some (es, ob2) => some (.tup es, ob2)
    | none => none
  | d => takeIn o fr ob id d
def ret1 (fr : Nat → Bool) (id : Nat) (xs : List DV) (ob : OB) (r : DV) (outs : List DV) : Option (DV × OB) :=
  if !(lendsOwn xs && !(newRes r && newOuts outs)) && apartKs (refKs xs) (ownKs xs) then
    match putRefs (oldArgs ob xs) ob xs outs with
    | none => none
    | some ob1 => retC (oldArgs ob xs) fr id ob1 r
  else none
def ret2 (fr : Nat → Bool) (id : Nat) (xs : List DV) (ob : OB) : Option (DV × List DV) → Option (DV × OB)
  | none => none
  | some (r, outs) => ret1 fr id xs ob r outs
theorem ret2_some (id : Nat) (xs : List DV) (r : DV) (outs : List DV) : ret2 fr id xs ob (some (r, outs)) = ret1 fr id xs ob r outs := rfl
def calL (Γ : Fns) (fr : Nat → Bool) (f id : Nat) (xs : List DV) (ob : OB) : Option (List DV) → Option (DV × OB)
  | none => none
  | some as => ret2 fr id xs ob (Γ f as)
theorem calL_some (f id : Nat) (xs as : List DV) : calL Γ fr f id xs ob (some as) = ret2 fr id xs ob (Γ f as) := rfl
theorem ef_call (f id : Nat) (xs : List DV) : eff Γ fr (.call f id) xs ob = calL Γ fr f id xs ob (lendArgs ob xs) := by
  show callD Γ fr f id xs ob = _
  unfold callD calL ret2 ret1
  cases lendArgs ob xs with
  | none => rfl
  | some as =>
    simp only
    generalize Γ f as = q
    cases q with
    | none => rfl
    | some p =>
      obtain ⟨r, outs⟩ := p
      simp only
      split
      · cases putRefs (oldArgs ob xs) ob xs outs with
        | none => rfl
        | some ob1 => cases r <;> rfl
      · rfl
theorem retC_i (o : Bool) (id : Nat) (n : Int) : retC o fr id ob (.i n) = some (.i n, ob) := rfl
theorem retC_y (o : Bool) (id : Nat) (n : Nat) : retC o fr id ob (.y n) = some (.y n, ob) := rfl
theorem retC_b (o : Bool) (id : Nat) (n : Bool) : retC o fr id ob (.b n) = some (.b n, ob) := rfl
theorem retC_s (o : Bool) (id : Nat) (n : List UInt8) : retC o fr id ob (.s n) = some (.s n, ob) := rfl
theorem retC_st (o : Bool) (id : Nat) (n : List DV) : retC o fr id ob (.st n) = some (.st (adoptL o n), ob) := rfl
theorem retC_sl (o : Bool) (id p : Nat) (n : List DV) : retC o fr id ob (.sl p n) = some ((DV.sl p n).adopt o, ob) := rfl
theorem retC_np (o : Bool) (id : Nat) : retC o fr id ob .np = some (.np, ob) := rfl
theorem retC_fr (o : Bool) (id sz : Nat) (es : List DV) : retC o fr id ob (.fr sz es) = takeIn o fr ob id (.fr sz es) := rfl
theorem retC_ref (o : Bool) (id : Nat) (c : DV) : retC o fr id ob (.ref c) = takeIn o fr ob id (.ref c) := rfl
theorem retC_tup (o : Bool) (id : Nat) (ds : List DV) : retC o fr id ob (.tup ds) = match takeInL o fr ob (id + 1) ds with
    | some (es, ob2) => some (.tup es, ob2)
    | none => none := rfl
end
section
variable (ds : List DV)
theorem rk_nil : refKs [] = [] := rfl
theorem rk_i (n : Int) : refKs (.i n :: ds) = refKs ds := rfl
theorem rk_y (n : Nat) : refKs (.y n :: ds) = refKs ds := rfl
theorem rk_b (n : Bool) : refKs (.b n :: ds) = refKs ds := rfl
theorem rk_s (n : List UInt8) : refKs (.s n :: ds) = refKs ds := rfl
theorem rk_st (n : List DV) : refKs (.st n :: ds) = refKs ds := rfl
theorem rk_sl (p : Nat) (n : List DV) : refKs (.sl p n :: ds) = refKs ds := rfl
theorem rk_own (k n lo hi : Nat) : refKs (.own k n lo hi :: ds) = refKs ds := rfl
theorem rk_oad (k n lo hi : Nat) : refKs (.oad k n lo hi :: ds) = k :: refKs ds := rfl
theorem rk_nl : refKs (.nil :: ds) = refKs ds := rfl
theorem ok_nil : ownKs [] = [] := rfl
theorem ok_i (n : Int) : ownKs (.i n :: ds) = ownKs ds := rfl
theorem ok_y (n : Nat) : ownKs (.y n :: ds) = ownKs ds := rfl
theorem ok_b (n : Bool) : ownKs (.b n :: ds) = ownKs ds := rfl
theorem ok_s (n : List UInt8) : ownKs (.s n :: ds) = ownKs ds := rfl
theorem ok_st (n : List DV) : ownKs (.st n :: ds) = ownKs ds := rfl
theorem ok_sl (p : Nat) (n : List DV) : ownKs (.sl p n :: ds) = ownKs ds := rfl
theorem ok_own (k n lo hi : Nat) : ownKs (.own k n lo hi :: ds) = k :: ownKs ds := rfl
theorem ok_oad (k n lo hi : Nat) : ownKs (.oad k n lo hi :: ds) = ownKs ds := rfl
theorem ok_nl : ownKs (.nil :: ds) = ownKs ds := rfl
theorem lo_nil : lendsOwn [] = false := rfl
theorem lo_i (n : Int) : lendsOwn (.i n :: ds) = lendsOwn ds := rfl
theorem lo_y (n : Nat) : lendsOwn (.y n :: ds) = lendsOwn ds := rfl
theorem lo_b (n : Bool) : lendsOwn (.b n :: ds) = lendsOwn ds := rfl
theorem lo_s (n : List UInt8) : lendsOwn (.s n :: ds) = lendsOwn ds := rfl
theorem lo_st (n : List DV) : lendsOwn (.st n :: ds) = lendsOwn ds := rfl
theorem lo_sl (p : Nat) (n : List DV) : lendsOwn (.sl p n :: ds) = lendsOwn ds := rfl
theorem lo_own (k n lo hi : Nat) : lendsOwn (.own k n lo hi :: ds) = true := rfl
theorem lo_oad (k n lo hi : Nat) : lendsOwn (.oad k n lo hi :: ds) = lendsOwn ds := rfl
theorem lo_nl : lendsOwn (.nil :: ds) = lendsOwn ds := rfl
variable (o : Bool) (ob : OB) (cs : List DV)
theorem pr_nil : putRefs o ob [] [] = some ob := rfl
theorem pr_i (n : Int) : putRefs o ob (.i n :: ds) cs = putRefs o ob ds cs := by cases cs <;> rfl
theorem pr_y (n : Nat) : putRefs o ob (.y n :: ds) cs = putRefs o ob ds cs := by cases cs <;> rfl
theorem pr_b (n : Bool) : putRefs o ob (.b n :: ds) cs = putRefs o ob ds cs := by cases cs <;> rfl
theorem pr_s (n : List UInt8) : putRefs o ob (.s n :: ds) cs = putRefs o ob ds cs := by cases cs <;> rfl
theorem pr_st (n : List DV) : putRefs o ob (.st n :: ds) cs = putRefs o ob ds cs := by cases cs <;> rfl
theorem pr_sl (p : Nat) (n : List DV) : putRefs o ob (.sl p n :: ds) cs = putRefs o ob ds cs := by cases cs <;> rfl
theorem pr_own (k n lo hi : Nat) : putRefs o ob (.own k n lo hi :: ds) cs = putRefs o ob ds cs := by cases cs <;> rfl
theorem pr_nl : putRefs o ob (.nil :: ds) cs = putRefs o ob ds cs := by cases cs <;> rfl
theorem pr_oad (k n lo hi : Nat) (c : DV) : putRefs o ob (.oad k n lo hi :: ds) (c :: cs) = putRefs o (putO ob k [c.adopt o]) ds cs := rfl
theorem nr_i (n : Int) : newRes (.i n) = true := rfl
theorem nr_y (n : Nat) : newRes (.y n) = true := rfl
theorem nr_b (n : Bool) : newRes (.b n) = true := rfl
theorem nr_s (n : List UInt8) : newRes (.s n) = true := rfl
theorem nr_st (n : List DV) : newRes (.st n) = allNewL n := by simp [newRes, DV.allNew]
theorem nr_sl (p : Nat) (n : List DV) : newRes (.sl p n) = (newP p && allNewL n) := by simp [newRes, DV.allNew]
theorem nr_fr (sz : Nat) (n : List DV) : newRes (.fr sz n) = allNewL n := rfl
theorem nr_np : newRes .np = true := rfl
theorem nr_tup (l : List DV) : newRes (.tup l) = newRes.go l := rfl
theorem ng_i (n : Int) : newRes.go (.i n :: ds) = newRes.go ds := by simp [newRes.go, DV.allNew]
theorem ng_b (n : Bool) : newRes.go (.b n :: ds) = newRes.go ds := by simp [newRes.go, DV.allNew]
theorem ng_s (n : List UInt8) : newRes.go (.s n :: ds) = newRes.go ds := by simp [newRes.go, DV.allNew]
theorem ng_fr (sz : Nat) (n : List DV) : newRes.go (.fr sz n :: ds) = (allNewL n && newRes.go ds) := by simp [newRes.go]
theorem ng_nil : newRes.go [] = true := rfl
def oldO : Option (List DV) → Bool
  | some cs => allOldL cs
  | none => false
theorem oldO_some (cs : List DV) : oldO (some cs) = allOldL cs := rfl
theorem oa_nil : oldArgs ob [] = true := rfl
theorem oa_i (n : Int) : oldArgs ob (.i n :: ds) = oldArgs ob ds := rfl
theorem oa_y (n : Nat) : oldArgs ob (.y n :: ds) = oldArgs ob ds := rfl
theorem oa_b (n : Bool) : oldArgs ob (.b n :: ds) = oldArgs ob ds := rfl
theorem oa_s (n : List UInt8) : oldArgs ob (.s n :: ds) = oldArgs ob ds := rfl
theorem oa_st (n : List DV) : oldArgs ob (.st n :: ds) = (allOldL n && oldArgs ob ds) := rfl
theorem oa_sl (p : Nat) (n : List DV) : oldArgs ob (.sl p n :: ds) = ((p == 0 && allOldL n) && oldArgs ob ds) := rfl
theorem oa_own (k n lo hi : Nat) : oldArgs ob (.own k n lo hi :: ds) = false := rfl
theorem oa_oad (k n lo hi : Nat) : oldArgs ob (.oad k n lo hi :: ds) = (oldO (lookO ob k) && oldArgs ob ds) := by
  show (oldArg ob (.oad k n lo hi) && oldArgs ob ds) = _
  simp only [oldArg]
  cases lookO ob k <;> rfl
theorem oa_nl : oldArgs ob (.nil :: ds) = oldArgs ob ds := rfl
theorem al_nil : allOldL [] = true := rfl
theorem al_cons (d : DV) : allOldL (d :: ds) = (d.allOld && allOldL ds) := rfl
theorem al_i (n : Int) : (DV.i n).allOld = true := rfl
theorem al_y (n : Nat) : (DV.y n).allOld = true := rfl
theorem al_b (n : Bool) : (DV.b n).allOld = true := rfl
theorem al_s (n : List UInt8) : (DV.s n).allOld = true := rfl
theorem al_st (n : List DV) : (DV.st n).allOld = allOldL n := rfl
theorem al_sl (p : Nat) (n : List DV) : (DV.sl p n).allOld = (p == 0 && allOldL n) := rfl
end
theorem rd_free (Γ : Fns) : ∀ (ops : List LOp) (S : LS), runD Γ .free ops S = runL Γ ops S
  | [], S => rfl
  | o :: os, S => by
    simp only [runD, runL, okStep, if_true]
    cases stepL Γ o S <;> simp [rd_free Γ os]
theorem mo_nil : modeOf [] = .free := rfl
theorem mo_cons (o : LOp) (os : List LOp) : modeOf (o :: os) = if o.k.isW = true then .strong else modeOf os := by
  unfold modeOf
  rw [List.any_cons]
  cases o.k.isW <;> simp
def drK : Option LS → Option LS → Option LS
  | some S, _ => some S
  | none, b => b
theorem drK_some (S : LS) (b : Option LS) : drK (some S) b = some S := rfl
theorem drK_none (b : Option LS) : drK none b = b := rfl
theorem drK_congr {r r' : Option LS} (b : Option LS) (h : r = r') : drK r b = drK r' b := by rw [h]
theorem rr_false (Γ : Fns) (ops : List LOp) (S : LS) : runR Γ false ops S = runL Γ ops S := rfl
theorem rr_true (Γ : Fns) (ops : List LOp) (S : LS) : runR Γ true ops S = drK (runD Γ (modeOf ops) ops S) (drK (runD Γ .weak ops S) (runD Γ (.foot (ownIds S.sl)) ops S)) := by
  simp only [runR]
  cases runD Γ (modeOf ops) ops S with
  | some S1 => rfl
  | none => cases runD Γ .weak ops S <;> rfl

/-! ### Regions that draw their order -/
theorem effP_eff (fr : Nat → Bool) (k : K) (xs : List DV) (ob : OB) : effP fr k xs ob = eff (fun _ _ => none) fr k xs ob := by
  cases k with
  | call f id =>
    rw [eff_call]
    unfold callD
    cases lendArgs ob xs <;> rfl
  | _ => rfl
def nxD (Γ : Fns) (os : List LOp) (e : Env) (d : Option Nat) : Option (DV × OB) → Option LS
  | some (v, ob) => runD Γ .strong os ⟨putD e d v, ob⟩
  | none => none
theorem nxD_some (Γ : Fns) (os : List LOp) (e : Env) (d : Option Nat) (v : DV) (ob : OB) : nxD Γ os e d (some (v, ob)) = runD Γ .strong os ⟨putD e d v, ob⟩ := rfl
theorem nxD_none (Γ : Fns) (os : List LOp) (e : Env) (d : Option Nat) : nxD Γ os e d none = none := rfl
def oldV (x d : DV) : Bool := match x with
  | .own k _ _ _ | .oad k _ _ _ => d.mentions k
  | .tup _ => false
  | _ => true
section
variable (d : DV)
theorem ov_i (n : Int) : oldV (.i n) d = true := rfl
theorem ov_y (n : Nat) : oldV (.y n) d = true := rfl
theorem ov_b (n : Bool) : oldV (.b n) d = true := rfl
theorem ov_s (n : List UInt8) : oldV (.s n) d = true := rfl
theorem ov_st (n : List DV) : oldV (.st n) d = true := rfl
theorem ov_sl (p : Nat) (n : List DV) : oldV (.sl p n) d = true := rfl
theorem ov_own (k n lo hi : Nat) : oldV (.own k n lo hi) d = d.mentions k := rfl
theorem ov_oad (k n lo hi : Nat) : oldV (.oad k n lo hi) d = d.mentions k := rfl
theorem ov_adr (n : DV) : oldV (.adr n) d = true := rfl
theorem ov_nil : oldV .nil d = true := rfl
theorem ov_np : oldV .np d = true := rfl
theorem ov_und : oldV .und d = true := rfl
theorem ov_dead : oldV .dead d = true := rfl
theorem ov_tup (n : List DV) : oldV (.tup n) d = false := rfl
end
def oldN (e : Env) (dd : Option Nat) (r : Option (DV × OB)) : Bool := match dd, r with
  | some x, some (d, _) => oldV (look e x) d
  | none, some _ => true
  | _, none => false
theorem oldN_some (e : Env) (x : Nat) (d : DV) (ob : OB) : oldN e (some x) (some (d, ob)) = oldV (look e x) d := rfl
theorem oldN_nil (e : Env) (d : DV) (ob : OB) : oldN e none (some (d, ob)) = true := rfl
theorem oldN_none (e : Env) (dd : Option Nat) : oldN e dd none = false := by cases dd <;> rfl
def subO (e : Env) (args : List Opd) : Option (DV × OB) → Bool
  | some (.own k _ _ _, _) | some (.oad k _ _ _, _) => args.any fun | .t n => (look e n).mentions k | .c _ => false
  | some (.tup _, _) | none => false
  | _ => true
section
variable (e : Env) (args : List Opd) (ob : OB)
theorem so_none : subO e args none = false := rfl
theorem so_i (n : Int) : subO e args (some (.i n, ob)) = true := rfl
theorem so_y (n : Nat) : subO e args (some (.y n, ob)) = true := rfl
theorem so_b (n : Bool) : subO e args (some (.b n, ob)) = true := rfl
theorem so_s (n : List UInt8) : subO e args (some (.s n, ob)) = true := rfl
theorem so_st (n : List DV) : subO e args (some (.st n, ob)) = true := rfl
theorem so_sl (p : Nat) (n : List DV) : subO e args (some (.sl p n, ob)) = true := rfl
theorem so_adr (d : DV) : subO e args (some (.adr d, ob)) = true := rfl
theorem so_nil : subO e args (some (.nil, ob)) = true := rfl
theorem so_np : subO e args (some (.np, ob)) = true := rfl
theorem so_und : subO e args (some (.und, ob)) = true := rfl
theorem so_dead : subO e args (some (.dead, ob)) = true := rfl
def anyM (e : Env) (k : Nat) : List Opd → Bool
  | [] => false
  | .t n :: r => (look e n).mentions k || anyM e k r
  | .c _ :: r => anyM e k r
theorem anyM_nil (k : Nat) : anyM e k [] = false := rfl
theorem anyM_t (k n : Nat) (r : List Opd) : anyM e k (.t n :: r) = ((look e n).mentions k || anyM e k r) := rfl
theorem anyM_c (k : Nat) (d : DV) (r : List Opd) : anyM e k (.c d :: r) = anyM e k r := rfl
theorem anyM_any (k : Nat) : ∀ args : List Opd, (args.any fun | .t n => (look e n).mentions k | .c _ => false) = anyM e k args
  | [] => rfl
  | .t n :: r => by rw [List.any_cons, anyM_any k r]; rfl
  | .c d :: r => by rw [List.any_cons, anyM_any k r]; rfl
theorem so_own (k n lo hi : Nat) : subO e args (some (.own k n lo hi, ob)) = anyM e k args := anyM_any e k args
theorem so_oad (k n lo hi : Nat) : subO e args (some (.oad k n lo hi, ob)) = anyM e k args := anyM_any e k args
end
theorem old_V (o : LOp) (e : Env) (ob : OB) (x : Nat) (d : DV) (h : o.dst = some x) : oldOk o ⟨e, ob⟩ d = oldV (look e x) d := by
  unfold oldOk
  rw [h]
  rfl
theorem quiet_go (dd : Option Nat) (k : K) (args : List Opd) (g : Option (Nat × Bool)) (e : Env) (ob : OB) : quietGo ⟨dd, k, args, g⟩ ⟨e, ob⟩ = (subO e args (eff (fun _ _ => none) (fun _ => false) k (args.map (opv e)) []) && oldN e dd (eff (fun _ _ => none) (fun _ => false) k (args.map (opv e)) [])) := by
  have : (args.map (LS.get ⟨e, ob⟩)) = args.map (opv e) := by
    apply List.map_congr_left
    intro a _
    cases a <;> rfl
  unfold quietGo
  simp only [this, effP_eff]
  cases eff (fun _ _ => none) (fun _ => false) k (args.map (opv e)) [] with
  | none => rfl
  | some p =>
    obtain ⟨d, ob1⟩ := p
    have h1 : subM ⟨e, ob⟩ args d = subO e args (some (d, ob1)) := by cases d <;> rfl
    have h2 : oldOk ⟨dd, k, args, g⟩ ⟨e, ob⟩ d = oldN e dd (some (d, ob1)) := by cases dd <;> rfl
    simp only [h1, h2]
section
variable (Γ : Fns) (os : List LOp) (e : Env) (ob : OB)
theorem rd_nil (S : LS) : runD Γ .strong [] S = some S := rfl
theorem rd_gen (dd : Option Nat) (k : K) (args : List Opd) : runD Γ .strong (⟨dd, k, args, none⟩ :: os) ⟨e, ob⟩ =
    if k.isW = true ∨ (subO e args (eff (fun _ _ => none) (fun _ => false) k (args.map (opv e)) []) && oldN e dd (eff (fun _ _ => none) (fun _ => false) k (args.map (opv e)) [])) = true then nxD Γ os e dd (eff Γ (frOf e) k (args.map (opv e)) ob) else none := by
  have h1 : (args.map (LS.get ⟨e, ob⟩)) = args.map (opv e) := by
    apply List.map_congr_left
    intro a _
    cases a <;> rfl
  have hf : (fun id => !(id % 8 == 7) && !Env.mentions id e) = frOf e := rfl
  simp only [runD, stepL, h1, hf, okStep, quiet, quiet_go, Bool.or_eq_true]
  split
  · cases eff Γ (frOf e) k (args.map (opv e)) ob <;> rfl
  · rfl
theorem rd_mv (d n : Nat) : runD Γ .strong (⟨some d, .mv, [.t n], none⟩ :: os) ⟨e, ob⟩ = if ((match look e n with | .tup _ => false | _ => true) && oldV (look e d) (look e n)) = true then runD Γ .strong os ⟨put e d (look e n), ob⟩ else none := by
  rw [rd_gen]
  have : subO e [.t n] (eff (fun _ _ => none) (fun _ => false) .mv ([Opd.t n].map (opv e)) []) = (match look e n with | .tup _ => false | _ => true) := by
    show subO e [.t n] (some (look e n, [])) = _
    cases h : look e n <;> try rfl
    · rw [so_own]; simp [anyM_t, h, mm_own]
    · rw [so_oad]; simp [anyM_t, h, mm_oad]
  rw [this]
  simp only [K.isW, Bool.false_eq_true, false_or]
  rfl
theorem rd_gate (d : Nat) (k : K) (args : List Opd) (t : Nat) (w : Bool) : runD Γ .strong (⟨some d, k, args, some (t, w)⟩ :: os) ⟨e, ob⟩ = gate (look e t) w (runD Γ .strong (⟨some d, k, args, none⟩ :: os) ⟨e, ob⟩) (if k.isW = true ∨ oldV (look e d) .und = true then runD Γ .strong os ⟨put e d .und, ob⟩ else none) := by
  simp only [runD, stepL, gate, okStep, quiet, quiet_go]
  cases look e t with
  | b x =>
    by_cases h : x = w
    · subst h
      simp only [if_true]
    · simp only [if_neg h, putD, Bool.or_eq_true]
      rfl
  | und => simp only [Bool.or_eq_true, putD]; rfl
  | _ => simp
end
/-! ### where each object is only looked at or made -/
def nxW (Γ : Fns) (os : List LOp) (e : Env) (d : Option Nat) : Option (DV × OB) → Option LS
  | some (v, ob) => runD Γ .weak os ⟨putD e d v, ob⟩
  | none => none
theorem nxW_some (Γ : Fns) (os : List LOp) (e : Env) (d : Option Nat) (v : DV) (ob : OB) : nxW Γ os e d (some (v, ob)) = runD Γ .weak os ⟨putD e d v, ob⟩ := rfl
theorem nxW_none (Γ : Fns) (os : List LOp) (e : Env) (d : Option Nat) : nxW Γ os e d none = none := rfl
theorem wquiet_go (dd : Option Nat) (k : K) (args : List Opd) (g : Option (Nat × Bool)) (e : Env) (ob : OB) : wquietGo ⟨dd, k, args, g⟩ ⟨e, ob⟩ = (subO e args (eff (fun _ _ => none) (fun _ => false) k (args.map (opv e)) ob) && oldN e dd (eff (fun _ _ => none) (fun _ => false) k (args.map (opv e)) ob)) := by
  have : (args.map (LS.get ⟨e, ob⟩)) = args.map (opv e) := by
    apply List.map_congr_left
    intro a _
    cases a <;> rfl
  unfold wquietGo
  simp only [this, effP_eff]
  cases eff (fun _ _ => none) (fun _ => false) k (args.map (opv e)) ob with
  | none => rfl
  | some p =>
    obtain ⟨d, ob1⟩ := p
    have h1 : subM ⟨e, ob⟩ args d = subO e args (some (d, ob1)) := by cases d <;> rfl
    have h2 : oldOk ⟨dd, k, args, g⟩ ⟨e, ob⟩ d = oldN e dd (some (d, ob1)) := by cases dd <;> rfl
    simp only [h1, h2]
section
variable (Γ : Fns) (os : List LOp) (e : Env) (ob : OB)
theorem rw_nil (S : LS) : runD Γ .weak [] S = some S := rfl
theorem rw_gen (dd : Option Nat) (k : K) (args : List Opd) : runD Γ .weak (⟨dd, k, args, none⟩ :: os) ⟨e, ob⟩ =
    if (if k.isW = true then addsK k (args.map (opv e)) else (subO e args (eff (fun _ _ => none) (fun _ => false) k (args.map (opv e)) ob) && oldN e dd (eff (fun _ _ => none) (fun _ => false) k (args.map (opv e)) ob))) = true then nxW Γ os e dd (eff Γ (frOf e) k (args.map (opv e)) ob) else none := by
  have h1 : (args.map (LS.get ⟨e, ob⟩)) = args.map (opv e) := by
    apply List.map_congr_left
    intro a _
    cases a <;> rfl
  have hf : (fun id => !(id % 8 == 7) && !Env.mentions id e) = frOf e := rfl
  simp only [runD, stepL, h1, hf, okStep, adds, wquiet, wquiet_go]
  generalize eff Γ (frOf e) k (args.map (opv e)) ob = r
  cases r <;> rfl
theorem rw_gate (d : Nat) (k : K) (args : List Opd) (t : Nat) (w : Bool) : runD Γ .weak (⟨some d, k, args, some (t, w)⟩ :: os) ⟨e, ob⟩ = gate (look e t) w (runD Γ .weak (⟨some d, k, args, none⟩ :: os) ⟨e, ob⟩) (if k.isW = true ∨ oldV (look e d) .und = true then runD Γ .weak os ⟨put e d .und, ob⟩ else none) := by
  have h1 : (args.map (LS.get ⟨e, ob⟩)) = args.map (opv e) := by
    apply List.map_congr_left
    intro a _
    cases a <;> rfl
  have ho : oldOk ⟨some d, k, args, some (t, w)⟩ ⟨e, ob⟩ .und = oldV (look e d) .und := rfl
  simp only [runD, stepL, gate, okStep, adds, wquiet, wquiet_go, ho]
  cases look e t with
  | b x =>
    by_cases h : x = w
    · subst h
      simp only [if_true]
    · simp only [if_neg h, putD]
      cases k.isW <;> cases oldV (look e d) .und <;> simp
  | und => cases k.isW <;> cases oldV (look e d) .und <;> simp [putD]
  | _ => simp
end
def renL (t id : Nat) (e : Env) (ob : OB) : DV → Option LS
  | .own k n lo hi => if k = id then some ⟨e, ob⟩ else match lookO ob k with
      | some es => if k % 8 ≠ 7 ∧ id % 8 ≠ 7 ∧ szId k = szId id ∧ es.length = n ∧ Env.mentions id e = false then
          some ⟨put e t (.own id n lo hi), putO (dropO ob k) id es⟩ else none
      | none => none
  | _ => some ⟨e, ob⟩
theorem ren_own (t id : Nat) (e : Env) (ob : OB) (k n lo hi : Nat) : renL t id e ob (.own k n lo hi) = if k = id then some ⟨e, ob⟩ else match lookO ob k with
      | some es => if k % 8 ≠ 7 ∧ id % 8 ≠ 7 ∧ szId k = szId id ∧ es.length = n ∧ Env.mentions id e = false then
          some ⟨put e t (.own id n lo hi), putO (dropO ob k) id es⟩ else none
      | none => none := rfl
/-! ### where what is looked at is not what is changed -/
def nxF (Γ : Fns) (L : List Nat) (os : List LOp) (e : Env) (d : Option Nat) : Option (DV × OB) → Option LS
  | some (v, ob) => runD Γ (.foot L) os ⟨putD e d v, ob⟩
  | none => none
theorem nxF_some (Γ : Fns) (L : List Nat) (os : List LOp) (e : Env) (d : Option Nat) (v : DV) (ob : OB) : nxF Γ L os e d (some (v, ob)) = runD Γ (.foot L) os ⟨putD e d v, ob⟩ := rfl
theorem nxF_none (Γ : Fns) (L : List Nat) (os : List LOp) (e : Env) (d : Option Nat) : nxF Γ L os e d none = none := rfl
theorem nxF_congr (Γ : Fns) (L : List Nat) (os : List LOp) (d : Option Nat) {e e' : Env} {r r' : Option (DV × OB)} (he : e = e') (h : r = r') : nxF Γ L os e d r = nxF Γ L os e' d r' := by rw [he, h]
section
variable (Γ : Fns) (L : List Nat) (os : List LOp) (e : Env) (ob : OB)
theorem rf_nil (S : LS) : runD Γ (.foot L) [] S = some S := rfl
theorem rf_gen (dd : Option Nat) (k : K) (args : List Opd) : runD Γ (.foot L) (⟨dd, k, args, none⟩ :: os) ⟨e, ob⟩ =
    if (if k.isW = true then clearL L (hitK k (args.map (opv e))) else (subO e args (eff (fun _ _ => none) (fun _ => false) k (args.map (opv e)) []) && oldN e dd (eff (fun _ _ => none) (fun _ => false) k (args.map (opv e)) [])) ||
      ((subO e args (eff (fun _ _ => none) (fun _ => false) k (args.map (opv e)) ob) && oldN e dd (eff (fun _ _ => none) (fun _ => false) k (args.map (opv e)) ob)) && argsIn L (args.map (opv e)))) = true then nxF Γ L os e dd (eff Γ (frOf e) k (args.map (opv e)) ob) else none := by
  have h1 : (args.map (LS.get ⟨e, ob⟩)) = args.map (opv e) := by
    apply List.map_congr_left
    intro a _
    cases a <;> rfl
  have hf : (fun id => !(id % 8 == 7) && !Env.mentions id e) = frOf e := rfl
  simp only [runD, stepL, h1, hf, okStep, clears, quiet, quiet_go, wquiet, wquiet_go]
  generalize eff Γ (frOf e) k (args.map (opv e)) ob = r
  cases r <;> rfl
theorem rf_gate (d : Nat) (k : K) (args : List Opd) (t : Nat) (w : Bool) : runD Γ (.foot L) (⟨some d, k, args, some (t, w)⟩ :: os) ⟨e, ob⟩ = gate (look e t) w (runD Γ (.foot L) (⟨some d, k, args, none⟩ :: os) ⟨e, ob⟩) (if k.isW = true ∨ oldV (look e d) .und = true then runD Γ (.foot L) os ⟨put e d .und, ob⟩ else none) := by
  have h1 : (args.map (LS.get ⟨e, ob⟩)) = args.map (opv e) := by
    apply List.map_congr_left
    intro a _
    cases a <;> rfl
  have ho : oldOk ⟨some d, k, args, some (t, w)⟩ ⟨e, ob⟩ .und = oldV (look e d) .und := rfl
  simp only [runD, stepL, gate, okStep, clears, quiet, quiet_go, wquiet, wquiet_go, ho]
  cases look e t with
  | b x =>
    by_cases h : x = w
    · subst h
      simp only [if_true]
    · simp only [if_neg h, putD]
      cases k.isW <;> cases oldV (look e d) .und <;> simp
  | und => cases k.isW <;> cases oldV (look e d) .und <;> simp [putD]
  | _ => simp
end
section
variable (xs : List DV)
theorem hk_newnil (id : Nat) : hitK (.newnil id) xs = [] := rfl
theorem hk_make (id sz : Nat) (z : DV) : hitK (.make id sz z) xs = [] := rfl
theorem hk_alloc (id : Nat) (z : DV) : hitK (.alloc id z) xs = [] := rfl
theorem hk_box (id : Nat) : hitK (.box id) xs = ownKs xs := rfl
theorem hk_build (z : List DV) (p : List (Nat × Nat)) : hitK (.build z p) xs = ownKs xs := rfl
theorem hk_bslice (a b c : Nat) (z : DV) (p : List Nat) : hitK (.bslice a b c z p) xs = ownKs xs := rfl
theorem hk_call (f id : Nat) : hitK (.call f id) xs = refKs xs := rfl
theorem hk_store (a : Nat) : hitK (.store a) xs = refKs (xs.take 1) ++ ownKs xs := rfl
theorem hk_app (a b : Nat) : hitK (.app a b) xs = ownKs (xs.take 1) := rfl
variable (L : List Nat)
theorem cl_nil : clearL L [] = true := rfl
theorem cl_cons (k : Nat) (ks : List Nat) : clearL L (k :: ks) = (!L.contains k && clearL L ks) := rfl
theorem ai_nil : argsIn L [] = true := rfl
theorem ai_cons (x : DV) : argsIn L (x :: xs) = (inL L x && argsIn L xs) := rfl
theorem il_i (n : Int) : inL L (.i n) = true := rfl
theorem il_y (n : Nat) : inL L (.y n) = true := rfl
theorem il_b (n : Bool) : inL L (.b n) = true := rfl
theorem il_s (n : List UInt8) : inL L (.s n) = true := rfl
theorem il_st (n : List DV) : inL L (.st n) = true := rfl
theorem il_sl (p : Nat) (n : List DV) : inL L (.sl p n) = true := rfl
theorem il_own (k n lo hi : Nat) : inL L (.own k n lo hi) = L.contains k := rfl
theorem il_adr (d : DV) : inL L (.adr d) = true := rfl
theorem il_oad (k n lo hi : Nat) : inL L (.oad k n lo hi) = L.contains k := rfl
theorem il_ref (d : DV) : inL L (.ref d) = true := rfl
theorem il_fr (z : Nat) (n : List DV) : inL L (.fr z n) = true := rfl
theorem il_tup (n : List DV) : inL L (.tup n) = false := rfl
theorem il_nil  : inL L (.nil ) = true := rfl
theorem il_np  : inL L (.np ) = true := rfl
theorem il_und  : inL L (.und ) = true := rfl
theorem il_dead  : inL L (.dead ) = true := rfl
end
section
variable (r : Env) (t : Nat)
theorem oi_e : ownIds [] = [] := rfl
theorem oi_i (t : Nat) (n : Int) : ownIds ((t, .i n) :: r) = ownIds r := rfl
theorem oi_y (t : Nat) (n : Nat) : ownIds ((t, .y n) :: r) = ownIds r := rfl
theorem oi_b (t : Nat) (n : Bool) : ownIds ((t, .b n) :: r) = ownIds r := rfl
theorem oi_s (t : Nat) (n : List UInt8) : ownIds ((t, .s n) :: r) = ownIds r := rfl
theorem oi_st (t : Nat) (n : List DV) : ownIds ((t, .st n) :: r) = ownIds r := rfl
theorem oi_sl (t : Nat) (p : Nat) (n : List DV) : ownIds ((t, .sl p n) :: r) = ownIds r := rfl
theorem oi_own (t : Nat) (k n lo hi : Nat) : ownIds ((t, .own k n lo hi) :: r) = k :: ownIds r := rfl
theorem oi_adr (t : Nat) (d : DV) : ownIds ((t, .adr d) :: r) = ownIds r := rfl
theorem oi_oad (t : Nat) (k n lo hi : Nat) : ownIds ((t, .oad k n lo hi) :: r) = ownIds r := rfl
theorem oi_ref (t : Nat) (d : DV) : ownIds ((t, .ref d) :: r) = ownIds r := rfl
theorem oi_fr (t : Nat) (z : Nat) (n : List DV) : ownIds ((t, .fr z n) :: r) = ownIds r := rfl
theorem oi_tup (t : Nat) (n : List DV) : ownIds ((t, .tup n) :: r) = ownIds r := rfl
theorem oi_nil (t : Nat)  : ownIds ((t, .nil ) :: r) = ownIds r := rfl
theorem oi_np (t : Nat)  : ownIds ((t, .np ) :: r) = ownIds r := rfl
theorem oi_und (t : Nat)  : ownIds ((t, .und ) :: r) = ownIds r := rfl
theorem oi_dead (t : Nat)  : ownIds ((t, .dead ) :: r) = ownIds r := rfl
theorem as_nil : asideE t [] = true := rfl
theorem as_cons (k : Nat) (d : DV) : asideE t ((k, d) :: r) = ((k == t || d.aside) && asideE t r) := rfl
theorem ao_nil : asideO [] = true := rfl
theorem ao_cons (k : Nat) (es : List DV) (ob : OB) : asideO ((k, es) :: ob) = (allOldL es && asideO ob) := rfl
theorem av_i (n : Int) : (DV.i n).aside = true := rfl
theorem av_y (n : Nat) : (DV.y n).aside = true := rfl
theorem av_b (n : Bool) : (DV.b n).aside = true := rfl
theorem av_s (n : List UInt8) : (DV.s n).aside = true := rfl
theorem av_st (n : List DV) : (DV.st n).aside = allOldL n := rfl
theorem av_sl (p : Nat) (n : List DV) : (DV.sl p n).aside = (p == 0 && allOldL n) := rfl
theorem av_own (k n lo hi : Nat) : (DV.own k n lo hi).aside = true := rfl
theorem av_adr (d : DV) : (DV.adr d).aside = false := rfl
theorem av_oad (k n lo hi : Nat) : (DV.oad k n lo hi).aside = true := rfl
theorem av_ref (d : DV) : (DV.ref d).aside = false := rfl
theorem av_fr (z : Nat) (n : List DV) : (DV.fr z n).aside = false := rfl
theorem av_tup (n : List DV) : (DV.tup n).aside = false := rfl
theorem av_nil  : (DV.nil ).aside = true := rfl
theorem av_np  : (DV.np ).aside = true := rfl
theorem av_und  : (DV.und ).aside = true := rfl
theorem av_dead  : (DV.dead ).aside = true := rfl
end
def proL (t id : Nat) (e : Env) (ob : OB) : DV → Option LS
  | .sl 1 (x :: es) => if id % 8 ≠ 7 ∧ 0 < szId id ∧ szId id = x.cells.length ∧ Env.mentions id e = false ∧ asideE t e = true ∧ asideO ob = true ∧ allOldL (x :: es) = true then
        some ⟨put e t (.own id (es.length + 1) 0 (es.length + 1)), putO ob id (x :: es)⟩ else none
  | _ => none
theorem pro_cons (t id : Nat) (e : Env) (ob : OB) (x : DV) (es : List DV) : proL t id e ob (.sl 1 (x :: es)) = if id % 8 ≠ 7 ∧ 0 < szId id ∧ szId id = x.cells.length ∧ Env.mentions id e = false ∧ asideE t e = true ∧ asideO ob = true ∧ allOldL (x :: es) = true then
        some ⟨put e t (.own id (es.length + 1) 0 (es.length + 1)), putO ob id (x :: es)⟩ else none := rfl
noncomputable def ghK (lf : Nat → Option LF) (c : LC) : Option LS → Option (Ex × LS)
  | some S => ex lf c S
  | none => none
theorem ghK_some (lf : Nat → Option LF) (c : LC) (S : LS) : ghK lf c (some S) = ex lf c S := rfl
theorem ghK_congr (lf : Nat → Option LF) (c : LC) {r r' : Option LS} (h : r = r') : ghK lf c r = ghK lf c r' := by rw [h]
theorem ks_rename (lf : Nat → Option LF) (t id : Nat) (c : LC) (e : Env) (ob : OB) : ex lf (.ghost (.rename t id) c) ⟨e, ob⟩ = ghK lf c (renL t id e ob (look e t)) := by
  rw [ex_ghost]
  have : ghostL (.rename t id) ⟨e, ob⟩ = renL t id e ob (look e t) := by
    simp only [ghostL]
    generalize look e t = d
    cases d <;> rfl
  rw [this]
  cases renL t id e ob (look e t) <;> rfl
theorem ks_promote (lf : Nat → Option LF) (t id : Nat) (c : LC) (e : Env) (ob : OB) : ex lf (.ghost (.promote t id) c) ⟨e, ob⟩ = ghK lf c (proL t id e ob (look e t)) := by
  rw [ex_ghost]
  have : ghostL (.promote t id) ⟨e, ob⟩ = proL t id e ob (look e t) := by
    simp only [ghostL]
    generalize look e t = d
    cases d with
    | sl p es =>
      match p with
      | 0 => rfl
      | 1 => cases es <;> rfl
      | p + 2 => rfl
    | _ => rfl
  rw [this]
  cases proL t id e ob (look e t) <;> rfl
section
variable (xs : List DV)
theorem ak_newnil (id : Nat) : addsK (.newnil id) xs = true := rfl
theorem ak_make (id sz : Nat) (z : DV) : addsK (.make id sz z) xs = true := rfl
theorem ak_alloc (id : Nat) (z : DV) : addsK (.alloc id z) xs = true := rfl
theorem ak_box (id : Nat) : addsK (.box id) xs = (ownKs xs).isEmpty := rfl
theorem ak_build (z : List DV) (p : List (Nat × Nat)) : addsK (.build z p) xs = (ownKs xs).isEmpty := rfl
theorem ak_bslice (a b c : Nat) (z : DV) (p : List Nat) : addsK (.bslice a b c z p) xs = (ownKs xs).isEmpty := rfl
theorem ak_call (f id : Nat) : addsK (.call f id) xs = (refKs xs).isEmpty := rfl
theorem ak_store (a : Nat) : addsK (.store a) xs = false := rfl
theorem ak_app (a b : Nat) : addsK (.app a b) xs = false := rfl
end
section
theorem iw_mv : K.isW .mv = false := rfl
theorem iw_newnil (id : Nat) : K.isW (.newnil id) = true := rfl
theorem iw_pick : K.isW .pick = false := rfl
theorem iw_bin (op : BinOp) : K.isW (.bin op) = false := rfl
theorem iw_eqb (n : Bool) : K.isW (.eqb n) = false := rfl
theorem iw_eqs (n : Bool) (m : Nat) : K.isW (.eqs n m) = false := rfl
theorem iw_un (op : UnOp) : K.isW (.un op) = false := rfl
theorem iw_len : K.isW .len = false := rfl
theorem iw_lens : K.isW .lens = false := rfl
theorem iw_chk : K.isW .chk = false := rfl
theorem iw_fld (a b : Nat) (c : Bool) : K.isW (.fld a b c) = false := rfl
theorem iw_fldv (a b : Nat) (c : Bool) : K.isW (.fldv a b c) = false := rfl
theorem iw_idxa (a : Nat) : K.isW (.idxa a) = false := rfl
theorem iw_idx : K.isW .idx = false := rfl
theorem iw_load (a : Nat) (c : Bool) : K.isW (.load a c) = false := rfl
theorem iw_store (a : Nat) : K.isW (.store a) = true := rfl
theorem iw_slice (a b : Bool) (c : Nat) : K.isW (.slice a b c) = false := rfl
theorem iw_slices (a b : Bool) : K.isW (.slices a b) = false := rfl
theorem iw_make (a b : Nat) (c : DV) : K.isW (.make a b c) = true := rfl
theorem iw_alloc (a : Nat) (c : DV) : K.isW (.alloc a c) = true := rfl
theorem iw_box (a : Nat) : K.isW (.box a) = true := rfl
theorem iw_build (a : List DV) (b : List (Nat × Nat)) : K.isW (.build a b) = true := rfl
theorem iw_bslice (a b c : Nat) (d : DV) (p : List Nat) : K.isW (.bslice a b c d p) = true := rfl
theorem iw_app (a b : Nat) : K.isW (.app a b) = true := rfl
theorem iw_b2i (a : Nat) : K.isW (.conv .b2i a) = false := rfl
theorem iw_i2b (a : Nat) : K.isW (.conv .i2b a) = false := rfl
theorem iw_i2i (a : Nat) : K.isW (.conv .i2i a) = false := rfl
theorem iw_same (a : Nat) : K.isW (.conv .same a) = false := rfl
theorem iw_b2s (a : Nat) : K.isW (.conv .b2s a) = true := rfl
theorem iw_s2b (a : Nat) : K.isW (.conv .s2b a) = true := rfl
theorem iw_ext (a : Nat) : K.isW (.ext a) = false := rfl
theorem iw_mm (a : Bool) : K.isW (.mm a) = false := rfl
theorem iw_idxp (a b : Nat) : K.isW (.idxp a b) = false := rfl
theorem iw_call (a b : Nat) : K.isW (.call a b) = true := rfl
theorem nm_i (n : Int) : DV.noM (.i n) = true := rfl
theorem nm_y (n : Nat) : DV.noM (.y n) = true := rfl
theorem nm_b (n : Bool) : DV.noM (.b n) = true := rfl
theorem nm_s (n : List UInt8) : DV.noM (.s n) = true := rfl
theorem nm_st (n : List DV) : DV.noM (.st n) = true := rfl
theorem nm_sl (p : Nat) (n : List DV) : DV.noM (.sl p n) = true := rfl
theorem nm_own (a b c d : Nat) : DV.noM (.own a b c d) = false := rfl
theorem nm_oad (a b c d : Nat) : DV.noM (.oad a b c d) = false := rfl
theorem nm_adr (d : DV) : DV.noM (.adr d) = true := rfl
theorem nm_nil : DV.noM .nil = true := rfl
theorem nm_np : DV.noM .np = true := rfl
theorem nm_und : DV.noM .und = true := rfl
theorem nm_dead : DV.noM .dead = true := rfl
theorem nm_tup (d : List DV) : DV.noM (.tup d) = false := rfl
end

/-! ### Numbers -/
def andI (a b : Int) : Int := wr ((BitVec.ofInt 64 a &&& BitVec.ofInt 64 b).toNat)
def orI (a b : Int) : Int := wr ((BitVec.ofInt 64 a ||| BitVec.ofInt 64 b).toNat)
def xorI (a b : Int) : Int := wr ((BitVec.ofInt 64 a ^^^ BitVec.ofInt 64 b).toNat)
def andNotI (a b : Int) : Int := wr ((BitVec.ofInt 64 a &&& ~~~(BitVec.ofInt 64 b)).toNat)
def shlI (a b : Int) : Int := wr (a * 2 ^ (min b.toNat 64))
def shrI (a b : Int) : Int := a.fdiv (2 ^ (min b.toNat 64))
section
variable (a b : Int)
theorem bi_add : binI .add a b = some (.i (wr (a + b))) := rfl
theorem bi_sub : binI .sub a b = some (.i (wr (a - b))) := rfl
theorem bi_mul : binI .mul a b = some (.i (wr (a * b))) := rfl
theorem bi_quo : binI .quo a b = if b = 0 then none else some (.i (wr (a.tdiv b))) := rfl
theorem bi_rem : binI .rem a b = if b = 0 then none else some (.i (a.tmod b)) := rfl
theorem bi_eql : binI .eql a b = some (.b (a == b)) := rfl
theorem bi_neq : binI .neq a b = some (.b (a != b)) := rfl
theorem bi_lss : binI .lss a b = some (.b (decide (a < b))) := rfl
theorem bi_leq : binI .leq a b = some (.b (decide (a ≤ b))) := rfl
theorem bi_gtr : binI .gtr a b = some (.b (decide (b < a))) := rfl
theorem bi_geq : binI .geq a b = some (.b (decide (b ≤ a))) := rfl
theorem bi_shl : binI .shl a b = if b < 0 then none else some (.i (shlI a b)) := rfl
theorem bi_shr : binI .shr a b = if b < 0 then none else some (.i (shrI a b)) := rfl
theorem bi_and : binI .and a b = some (.i (andI a b)) := rfl
theorem bi_or : binI .or a b = some (.i (orI a b)) := rfl
theorem bi_xor : binI .xor a b = some (.i (xorI a b)) := rfl
theorem bi_andNot : binI .andNot a b = some (.i (andNotI a b)) := rfl
end

/-! ### What simp need not look into -/
theorem gate_congr {x x' : DV} (w : Bool) (a b : Option LS) (h : x = x') : gate x w a b = gate x' w a b := by rw [h]
theorem nx_congr (Γ : Fns) (os : List LOp) (d : Option Nat) {e e' : Env} {r r' : Option (DV × OB)} (he : e = e') (h : r = r') : nx Γ os e d r = nx Γ os e' d r' := by rw [he, h]
theorem nxD_congr (Γ : Fns) (os : List LOp) (d : Option Nat) {e e' : Env} {r r' : Option (DV × OB)} (he : e = e') (h : r = r') : nxD Γ os e d r = nxD Γ os e' d r' := by rw [he, h]
theorem runL_congr (Γ : Fns) (os : List LOp) {S S' : LS} (h : S = S') : runL Γ os S = runL Γ os S' := by rw [h]
theorem nxW_congr (Γ : Fns) (os : List LOp) (d : Option Nat) {e e' : Env} {r r' : Option (DV × OB)} (he : e = e') (h : r = r') : nxW Γ os e d r = nxW Γ os e' d r' := by rw [he, h]
theorem runD_congr (Γ : Fns) (q : Mode) (os : List LOp) {S S' : LS} (h : S = S') : runD Γ q os S = runD Γ q os S' := by rw [h]
theorem eff_congr (Γ : Fns) (fr : Nat → Bool) (k : K) {xs xs' : List DV} {ob ob' : OB} (h : xs = xs') (ho : ob = ob') : eff Γ fr k xs ob = eff Γ fr k xs' ob' := by rw [h, ho]
theorem calL_congr (Γ : Fns) (fr : Nat → Bool) (f id : Nat) (xs : List DV) (ob : OB) {r r' : Option (List DV)} (h : r = r') : calL Γ fr f id xs ob r = calL Γ fr f id xs ob r' := by rw [h]
theorem ret2_congr (fr : Nat → Bool) (id : Nat) (xs : List DV) (ob : OB) {r r' : Option (DV × List DV)} (h : r = r') : ret2 fr id xs ob r = ret2 fr id xs ob r' := by rw [h]

/-! ### The ways of control, one word each -/
section
variable (lf : Nat → Option LF)
noncomputable def seqK (b : LC) : Option (Ex × LS) → Option (Ex × LS)
  | some (.normal, S1) => ex lf b S1
  | r => r
theorem seqK_n (b : LC) (S : LS) : seqK lf b (some (.normal, S)) = ex lf b S := rfl
theorem seqK_e (b : LC) (j : Nat) (S : LS) : seqK lf b (some (.exit j, S)) = some (.exit j, S) := rfl
theorem seqK_r (b : LC) (S : LS) : seqK lf b (some (.ret, S)) = some (.ret, S) := rfl
theorem ks_seq (a b : LC) (S : LS) : ex lf (.seq a b) S = seqK lf b (ex lf a S) := by
  rw [ex_seq]; rfl
theorem seqK_congr (b : LC) {r r' : Option (Ex × LS)} (h : r = r') : seqK lf b r = seqK lf b r' := by rw [h]
def regK (kill : List Nat) : Option LS → Option (Ex × LS)
  | some S1 => some (.normal, S1.drop kill)
  | none => none
theorem regK_some (kill : List Nat) (S : LS) : regK kill (some S) = some (.normal, S.drop kill) := rfl
theorem regK_congr (kill : List Nat) {r r' : Option LS} (h : r = r') : regK kill r = regK kill r' := by rw [h]
theorem ks_region (d : Bool) (ops : List LOp) (kill : List Nat) (S : LS) : ex lf (.region d ops kill) S = regK kill (runR (call lf) d ops S) := by
  rw [ex_region, regionL]
  cases runR (call lf) d ops S <;> rfl
noncomputable def condK (x y : LC) (kill : List Nat) (S : LS) : DV → Option (Ex × LS)
  | .b true => ex lf x (S.drop kill)
  | .b false => ex lf y (S.drop kill)
  | _ => none
theorem condK_t (x y : LC) (kill : List Nat) (S : LS) : condK lf x y kill S (.b true) = ex lf x (S.drop kill) := rfl
theorem condK_f (x y : LC) (kill : List Nat) (S : LS) : condK lf x y kill S (.b false) = ex lf y (S.drop kill) := rfl
theorem condK_congr (x y : LC) (kill : List Nat) (S : LS) {v v' : DV} (h : v = v') : condK lf x y kill S v = condK lf x y kill S v' := by rw [h]
theorem ks_cond (c : Opd) (kill : List Nat) (x y : LC) (e : Env) (ob : OB) : ex lf (.cond c kill x y) ⟨e, ob⟩ = condK lf x y kill ⟨e, ob⟩ (opv e c) := by
  rw [ex_cond]
  cases c <;> rfl
def blkK (id : Nat) : Option (Ex × LS) → Option (Ex × LS)
  | some (.exit j, S1) => if j = id then some (.normal, S1) else some (.exit j, S1)
  | r => r
theorem blkK_n (id : Nat) (S : LS) : blkK id (some (.normal, S)) = some (.normal, S) := rfl
theorem blkK_r (id : Nat) (S : LS) : blkK id (some (.ret, S)) = some (.ret, S) := rfl
theorem blkK_e (id j : Nat) (S : LS) : blkK id (some (.exit j, S)) = if j = id then some (.normal, S) else some (.exit j, S) := rfl
theorem ks_block (id : Nat) (b : LC) (S : LS) : ex lf (.block id b) S = blkK id (ex lf b S) := by rw [ex_block]; rfl
def endK (F : LF) (args : List DV) : Option (Ex × LS) → Option (DV × List DV)
  | some (.normal, S) => leave F args S
  | some (.ret, S) => leave F args S
  | _ => none
theorem endK_n (F : LF) (args : List DV) (S : LS) : endK F args (some (.normal, S)) = leave F args S := rfl
theorem endK_r (F : LF) (args : List DV) (S : LS) : endK F args (some (.ret, S)) = leave F args S := rfl
theorem endK_congr (F : LF) (args : List DV) {r r' : Option (Ex × LS)} (h : r = r') : endK F args r = endK F args r' := by rw [h]
theorem call_k (f : Nat) (args : List DV) {F : LF} (hF : lf f = some F) (hn : args.length = F.nparams) : call lf f args = endK F args (ex lf F.body (enter 0 args ⟨[], []⟩)) := by
  rw [call_eq lf f args hF hn]
  cases ex lf F.body (enter 0 args ⟨[], []⟩) with
  | none => rfl
  | some p => obtain ⟨x, S⟩ := p; cases x <;> rfl
end
end Go.Lg
