/- Part 5 of a logical reading of translated Go: what a frame holds is said by lists, and each operation is proved against the model. No conditions. -/
import Derived.Test.YtadlmpjlkfbnfacLg4
namespace Go.Lg
open Go.RowKit

def cellC : Value → Option DV
  | .int .i64 n => some (.i n)
  | .int .u8 n => if 0 ≤ n ∧ n < 256 then some (.y n.toNat) else none
  | .bool b => some (.b b)
  | .string s => some (.s s.data.toList)
  | .slice none 0 0 => some (.sl 1 [])
  | _ => none
def cellsC : List Value → Option (List DV)
  | [] => some []
  | v :: vs => match cellC v with
    | some d => match cellsC vs with
      | some ds => some (d :: ds)
      | none => none
    | none => none
def dvOf : Value → Option DV
  | .agg cs => (cellsC cs.toList).map .st
  | .slice none 0 0 => some .nil
  | .pointer none => some .np
  | v => cellC v

theorem cellC_ok {v : Value} {d : DV} (h : cellC v = some d) (w : World) (B : Nat) (ok : Nat → Prop) : CR w B ok d v := by
  unfold cellC at h
  split at h <;> try (cases h; done)
  · injection h with h; subst h; exact .i _
  · split at h
    · injection h with h; subst h
      rename_i n hn
      obtain ⟨hn, hn2⟩ := hn
      obtain ⟨m, rfl⟩ := Int.eq_ofNat_of_zero_le hn
      exact .y m (by omega)
    · cases h
  · injection h with h; subst h; exact .b _
  · injection h with h; subst h
    rename_i s
    exact .s s.data.toList
  · injection h with h; subst h; exact .sl0 1 none 0 (Nat.zero_le _)
theorem cellsC_ok (w : World) (B : Nat) (ok : Nat → Prop) : ∀ {vs : List Value} {ds : List DV}, cellsC vs = some ds → CRs w B ok ds vs
  | [], ds, h => by injection h with h; subst h; exact ⟨rfl, by simp⟩
  | v :: vs, ds, h => by
    simp only [cellsC] at h
    cases hc : cellC v with
    | none => rw [hc] at h; cases h
    | some d =>
      rw [hc] at h
      cases hs : cellsC vs with
      | none => rw [hs] at h; cases h
      | some es =>
        rw [hs] at h
        injection h with h
        subst h
        obtain ⟨h1, h2⟩ := cellsC_ok w B ok hs
        refine ⟨by simp [h1], fun j c u hc' hu => ?_⟩
        cases j with
        | zero => simp at hc' hu; subst hc'; subst hu; exact cellC_ok hc w B ok
        | succ j => simp at hc' hu; exact h2 j c u hc' hu
theorem dvOf_ok {v : Value} {d : DV} (h : dvOf v = some d) (w : World) (B : Nat) (ok : Nat → Prop) (O : OM) : VR w B ok O d v := by
  unfold dvOf at h
  split at h
  · rename_i cs
    cases hs : cellsC cs.toList with
    | none => rw [hs] at h; cases h
    | some ds => rw [hs] at h; injection h with h; subst h; exact .st _ _ (cellsC_ok w B ok hs)
  · injection h with h; subst h; exact .nil
  · injection h with h; subst h; exact .np
  · exact .cr _ _ (cellC_ok h w B ok)

def viewOpd : Operand → Option Opd
  | .tmp t => some (.t t)
  | .const v => (dvOf v).map .c
  | _ => none
def viewOpds : List Operand → Option (List Opd)
  | [] => some []
  | x :: xs => match viewOpd x with
    | some y => match viewOpds xs with
      | some ys => some (y :: ys)
      | none => none
    | none => none

/-- The slots, said. -/
def SR (w : World) (B : Nat) (ok : Nat → Prop) (O : OM) (e : Env) (a : Act) : Prop := ∀ t, VR w B ok O (look e t) (a.tmps.getD t undef)

theorem viewOpd_ok {w : World} {B : Nat} {ok : Nat → Prop} {O : OM} {S : LS} {a : Act} (hs : SR w B ok O S.sl a) {x : Operand} {y : Opd} (h : viewOpd x = some y) : VR w B ok O (S.get y) (a.eval x) := by
  cases x with
  | tmp t => simp only [viewOpd, Option.some.injEq] at h; subst h; exact hs t
  | const v =>
    simp only [viewOpd, Option.map_eq_some_iff] at h
    obtain ⟨d, hd, rfl⟩ := h
    exact dvOf_ok hd w B ok O
  | global g => simp [viewOpd] at h
  | func f => simp [viewOpd] at h

def szOf (P : Program) (t : TypeId) : Option Nat := (P.info? t).map (·.size)
def aggOf (P : Program) (t : TypeId) : Option Bool :=
  match P.underlying t with
  | some (.struct _) | some (.array ..) => some true
  | some _ => some false
  | none => none
/-- An element's type: its cells, and what they hold at first. -/
def elemInfo (P : Program) (e : TypeId) : Option (Nat × List DV) :=
  match P.info? e with
  | some i => match i.zero with
    | some z => if i.bytes ≤ 65536 ∧ z.cells.size = i.size ∧ 0 < i.size ∧ i.size < 64 then (cellsC z.cells.toList).map (i.size, ·) else none
    | none => none
  | none => none
def elemT (P : Program) (t : TypeId) : Option TypeId :=
  match P.underlying t with
  | some (.slice e) => some e
  | _ => none
def zeroD (P : Program) (e : TypeId) : Option (Nat × DV) :=
  match elemInfo P e, aggOf P e with
  | some (n, cs), some true => some (n, .st cs)
  | some (n, [c]), some false => some (n, c)
  | _, _ => none
def fieldOf (P : Program) (t : TypeId) (f : Nat) : Option (Nat × Nat × Bool) :=
  match P.underlying t with
  | some (.struct fs) => match fs[f]? with
    | some x => match szOf P x.type, aggOf P x.type with
      | some n, some g => if 0 < n then some (x.offset, n, g) else none
      | _, _ => none
    | none => none
  | _ => none
/-- A struct type whose fields are integers, bools, strings, of one cell each, in their order. -/
def plainEq (P : Program) (t : TypeId) : Bool :=
  match P.underlying t with
  | some (.struct fs) => !P.stoodInHeld t && !P.eqGuardType P.depth t && fs.toList.zipIdx.all fun (f, j) => f.name != "_" && f.offset == j && match P.underlying f.type with
    | some (.int .i64) | some (.int .u8) | some .bool | some .string => true
    | _ => false
  | some (.int _) | some .bool | some .string => true
  | _ => false

section
variable {P : Program} {w : World}
theorem run_loadCells_list (a : Addr) : ∀ (xs : List Value) (i : Nat) (acc : Array Value), (∀ (j : Nat) (u : Value), xs[j]? = some u → w.cell? (a.add (i + j)) = some u) →
    (loadCellsFrom a i xs.length acc).run P w = .ok (acc ++ xs.toArray) w
  | [], i, acc, _ => by simp [loadCellsFrom]
  | x :: xs, i, acc, h => by
    have h0 := h 0 x rfl
    simp only [Nat.add_zero] at h0
    have ih := run_loadCells_list a xs (i + 1) (acc.push x) (fun j u hu => by
      have := h (j + 1) u (by simpa using hu)
      rwa [show i + 1 + j = i + (j + 1) by omega])
    simp only [List.length_cons, loadCellsFrom, Sem.run_bind, run_load, h0, Result.andThen_ok]
    rw [ih]
    simp
theorem run_load_agg (t : TypeId) (n : Nat) (hg : aggOf P t = some true) (hn : szOf P t = some n) (a : Addr) (xs : List Value) (hx : xs.length = n) (h : ∀ (j : Nat) (u : Value), xs[j]? = some u → w.cell? (a.add j) = some u) :
    (Instr.loadAt t (.pointer (some a))).run P w = .ok (.agg xs.toArray) w := by
  have hl := run_loadCells_list (P := P) (w := w) a xs 0 #[] (by simpa using h)
  unfold aggOf at hg
  simp only [szOf, Option.map_eq_some_iff] at hn
  obtain ⟨i, hi, rfl⟩ := hn
  have hagg : (isAgg t).run P w = .ok true w := by
    unfold isAgg
    split at hg
    · rename_i fs hu; simp [run_underlying hu]
    · rename_i k e hu; simp [run_underlying hu]
    · simp at hg
    · cases hg
  simp only [Instr.loadAt, Instr.sureAddr, Sem.run_bind, Sem.run_pure, Result.andThen_ok, loadVar, hagg, if_true, sizeOf, typeInfo, run_program, hi, loadCells]
  rw [← hx, hl]
  simp
theorem run_load_one (t : TypeId) (hg : aggOf P t = some false) (a : Addr) (u : Value) (h : w.cell? a = some u) :
    (Instr.loadAt t (.pointer (some a))).run P w = .ok u w := by
  unfold aggOf at hg
  have hagg : (isAgg t).run P w = .ok false w := by
    unfold isAgg
    split at hg
    · simp at hg
    · simp at hg
    · rename_i d h1 h2 hu
      simp only [run_underlying hu, Sem.run_bind, Result.andThen_ok]; rfl
    · cases hg
  simp [Instr.loadAt, Instr.sureAddr, loadVar, hagg, h]
end
end Go.Lg
