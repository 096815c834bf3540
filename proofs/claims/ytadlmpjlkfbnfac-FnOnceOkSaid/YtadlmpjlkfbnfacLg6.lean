/- Part 6 of a logical reading of translated Go: what a frame holds is said by lists, and each operation is proved against the model. No conditions. -/
import Derived.Test.YtadlmpjlkfbnfacLg5
namespace Go.Lg
set_option linter.unusedSimpArgs false
set_option linter.unusedVariables false
open Go.RowKit

/-- What an operation's run must come to. -/
def Out (P : Program) (c : Cx) (fr : Nat → Bool) (w : World) (O : OM) (run : Result Next) (d : DV) (ob : OB) : Prop :=
  ∃ v w' O', (run = .ok (.value v) w' ∨ (run = .ok .skip w' ∧ v = undef)) ∧ MR c O' ob w' ∧ VR w' c.B (okb c.ok0 c.B O') O' d v ∧ Tr c.ok0 c.B (fun id => fr id = true) w O w' O'

theorem Tr.mono {ok0 : Nat → Prop} {B : Nat} {N M : Nat → Prop} {w w' : World} {O O' : OM} (h : Tr ok0 B N w O w' O') (hn : ∀ id, N id → M id) : Tr ok0 B M w O w' O' :=
  ⟨h.size, h.heap, h.ok, fun k p' hk hp => h.obj k p' (fun hN => hk (hn k hN)) hp⟩

section
variable {P : Program} {c : Cx} {fr : Nat → Bool} {w : World} {O : OM} {ob : OB} {o : Oper} {ρ : Operand → Value}

theorem Out.same (hm : MR c O ob w) {d : DV} {v : Value} {run : Result Next} (hr : run = .ok (.value v) w) (hv : VR w c.B (okb c.ok0 c.B O) O d v) : Out P c fr w O run d ob :=
  ⟨v, w, O, .inl hr, hm, hv, Tr.refl _ _ _ _ _⟩

theorem out_mv (hm : MR c O ob w) {x : Operand} (ho : o.op = .move x ∨ o.op = .assign x) {d : DV} (hv : VR w c.B (okb c.ok0 c.B O) O d (ρ x)) : Out P c fr w O ((execOp ρ o).run P w) d ob := by
  refine Out.same hm ?_ hv
  rcases ho with h | h <;> simp [execOp, h]

theorem VR.bool {b : Bool} {v : Value} (h : VR w c.B (okb c.ok0 c.B O) O (.b b) v) : v = .bool b := by
  cases h with | cr _ _ h => cases h; rfl
theorem VR.int {n : Int} {v : Value} (h : VR w c.B (okb c.ok0 c.B O) O (.i n) v) : v = .int .i64 n := by
  cases h with | cr _ _ h => cases h; rfl
theorem VR.byte {n : Nat} {v : Value} (h : VR w c.B (okb c.ok0 c.B O) O (.y n) v) : v = .int .u8 n := by
  cases h with | cr _ _ h => cases h; rfl
theorem VR.str {l : List UInt8} {v : Value} (h : VR w c.B (okb c.ok0 c.B O) O (.s l) v) : v = .string ⟨l.toArray⟩ := by
  cases h with | cr _ _ h => cases h; rfl
theorem VR.st' {cs : List DV} {v : Value} (h : VR w c.B (okb c.ok0 c.B O) O (.st cs) v) : ∃ vs : Array Value, v = .agg vs ∧ CRs w c.B (okb c.ok0 c.B O) cs vs.toList := by
  cases h with
  | cr _ _ h => cases h
  | st _ vs h => exact ⟨vs, rfl, h⟩
theorem VR.mkI (n : Int) : VR w c.B (okb c.ok0 c.B O) O (.i n) (.int .i64 n) := .cr _ _ (.i n)
theorem VR.mkB (b : Bool) : VR w c.B (okb c.ok0 c.B O) O (.b b) (.bool b) := .cr _ _ (.b b)
theorem VR.mkY (n : Nat) (hn : n < 256) : VR w c.B (okb c.ok0 c.B O) O (.y n) (.int .u8 n) := .cr _ _ (.y n hn)
theorem wr8_lt (n : Int) : wr8 n < 256 := by unfold wr8; omega
theorem VR.byte_lt {n : Nat} {v : Value} (h : VR w c.B (okb c.ok0 c.B O) O (.y n) v) : n < 256 := by
  cases h with | cr _ _ h => cases h; assumption
theorem VR.mkS (l : List UInt8) : VR w c.B (okb c.ok0 c.B O) O (.s l) (.string ⟨l.toArray⟩) := .cr _ _ (.s l)

theorem out_pick (hm : MR c O ob w) {x y z : Operand} (ho : o.op = .pick x y z) {b : Bool} {dy dz : DV} (hx : VR w c.B (okb c.ok0 c.B O) O (.b b) (ρ x))
    (hy : VR w c.B (okb c.ok0 c.B O) O dy (ρ y)) (hz : VR w c.B (okb c.ok0 c.B O) O dz (ρ z)) : Out P c fr w O ((execOp ρ o).run P w) (if b then dy else dz) ob := by
  refine Out.same hm (v := if b then ρ y else ρ z) ?_ ?_
  · simp [execOp, ho, hx.bool, asBool]
  · cases b
    · exact hz
    · exact hy

theorem run_eqGuard_plain (op : BinOp) (t : TypeId) (x y : Operand) (a b : Value) (h : ∀ cs ds, ¬ (a = .agg cs ∧ b = .agg ds)) (hn : a ≠ .nilIface) : (eqGuard op t x y a b).run P w = .ok () w := by
  unfold eqGuard
  cases op <;> first
    | rfl
    | (cases a <;> first
        | rfl
        | exact absurd rfl hn
        | (cases b <;> first | rfl | exact absurd ⟨rfl, rfl⟩ (h _ _)))

theorem bits_i64 (a b : Int) (op : BinOp) (f : BitVec 64 → BitVec 64 → BitVec 64)
    (h : (op = .and ∧ f = fun x y => x &&& y) ∨ (op = .or ∧ f = fun x y => x ||| y) ∨ (op = .xor ∧ f = fun x y => x ^^^ y) ∨ (op = .andNot ∧ f = fun x y => x &&& ~~~y)) :
    (Op.intBits op .i64 a b).run P w = .ok (.int .i64 (wr (f (BitVec.ofInt 64 a) (BitVec.ofInt 64 b)).toNat)) w := by
  rcases h with ⟨rfl, rfl⟩ | ⟨rfl, rfl⟩ | ⟨rfl, rfl⟩ | ⟨rfl, rfl⟩ <;> rfl

theorem run_bin_int (op : BinOp) (t : TypeId) (a b : Int) {d : DV} (h : binI op a b = some d) :
    ∃ v, (binOp op t (.int .i64 a) (.int .i64 b)).run P w = .ok v w ∧ VR w c.B (okb c.ok0 c.B O) O d v := by
  cases op <;> simp only [binI] at h
  case add => injection h with h; subst h; exact ⟨_, rfl, .mkI _⟩
  case sub => injection h with h; subst h; exact ⟨_, rfl, .mkI _⟩
  case mul => injection h with h; subst h; exact ⟨_, rfl, .mkI _⟩
  case quo =>
    split at h
    · cases h
    · rename_i hb
      injection h with h; subst h
      exact ⟨.int .i64 (wr (a.tdiv b)), by simp [binOp, Op.intDiv, hb, wr], .mkI _⟩
  case rem =>
    split at h
    · cases h
    · rename_i hb
      injection h with h; subst h
      exact ⟨.int .i64 (a.tmod b), by simp [binOp, Op.intDiv, hb], .mkI _⟩
  case and => injection h with h; subst h; exact ⟨_, bits_i64 a b .and _ (.inl ⟨rfl, rfl⟩), .mkI _⟩
  case or => injection h with h; subst h; exact ⟨_, bits_i64 a b .or _ (.inr (.inl ⟨rfl, rfl⟩)), .mkI _⟩
  case xor => injection h with h; subst h; exact ⟨_, bits_i64 a b .xor _ (.inr (.inr (.inl ⟨rfl, rfl⟩))), .mkI _⟩
  case andNot => injection h with h; subst h; exact ⟨_, bits_i64 a b .andNot _ (.inr (.inr (.inr ⟨rfl, rfl⟩))), .mkI _⟩
  case shl =>
    split at h
    · cases h
    · rename_i hb
      injection h with h; subst h
      exact ⟨_, by simp only [binOp, Op.shift, hb, if_false]; rfl, .mkI _⟩
  case shr =>
    split at h
    · cases h
    · rename_i hb
      injection h with h; subst h
      exact ⟨_, by simp only [binOp, Op.shift, hb, if_false]; rfl, .mkI _⟩
  case eql => injection h with h; subst h; exact ⟨_, rfl, .mkB _⟩
  case neq => injection h with h; subst h; exact ⟨_, rfl, .mkB _⟩
  case lss => injection h with h; subst h; exact ⟨_, rfl, .mkB _⟩
  case leq => injection h with h; subst h; exact ⟨_, rfl, .mkB _⟩
  case gtr => injection h with h; subst h; exact ⟨_, rfl, .mkB _⟩
  case geq => injection h with h; subst h; exact ⟨_, rfl, .mkB _⟩

theorem run_bin_byte (op : BinOp) (t : TypeId) (a b : Nat) {d : DV} (h : binY op a b = some d) :
    ∃ v, (binOp op t (.int .u8 a) (.int .u8 b)).run P w = .ok v w ∧ VR w c.B (okb c.ok0 c.B O) O d v := by
  have hw : ∀ z : Int, IntKind.u8.wrap z = ((wr8 z : Nat) : Int) := fun z => by
    unfold wr8
    have : IntKind.u8.wrap z = z % 256 := by
      simp [IntKind.wrap, IntKind.signed, IntKind.bits]
    rw [this]; omega
  cases op <;> simp only [binY] at h <;> try (cases h; done)
  case add => injection h with h; subst h; exact ⟨_, rfl, by rw [hw]; exact .mkY _ (wr8_lt _)⟩
  case sub => injection h with h; subst h; exact ⟨_, rfl, by rw [hw]; exact .mkY _ (wr8_lt _)⟩
  case eql => injection h with h; subst h; exact ⟨.bool ((a : Int) == b), rfl, by rw [show ((a : Int) == (b : Int)) = (a == b) by rw [Bool.eq_iff_iff, beq_iff_eq, beq_iff_eq]; omega]; exact .mkB _⟩
  case neq => injection h with h; subst h; exact ⟨.bool ((a : Int) != b), rfl, by rw [show ((a : Int) != (b : Int)) = (a != b) by rw [Bool.eq_iff_iff, bne_iff_ne, bne_iff_ne]; omega]; exact .mkB _⟩
  case lss => injection h with h; subst h; exact ⟨.bool (decide ((a : Int) < b)), rfl, by rw [show decide ((a : Int) < (b : Int)) = decide (a < b) by simp]; exact .mkB _⟩
  case leq => injection h with h; subst h; exact ⟨.bool (decide ((a : Int) ≤ b)), rfl, by rw [show decide ((a : Int) ≤ (b : Int)) = decide (a ≤ b) by simp]; exact .mkB _⟩
  case gtr => injection h with h; subst h; exact ⟨.bool (decide ((a : Int) > b)), rfl, by rw [show decide ((a : Int) > (b : Int)) = decide (a > b) by simp]; exact .mkB _⟩
  case geq => injection h with h; subst h; exact ⟨.bool (decide ((a : Int) ≥ b)), rfl, by rw [show decide ((a : Int) ≥ (b : Int)) = decide (a ≥ b) by simp]; exact .mkB _⟩

theorem toList_mk (l : List UInt8) : (⟨l.toArray⟩ : ByteArray).toList = l := by
  simp

theorem run_bin_str (op : BinOp) (t : TypeId) (a b : List UInt8) {d : DV} (h : binS op a b = some d) :
    ∃ v, (binOp op t (.string ⟨a.toArray⟩) (.string ⟨b.toArray⟩)).run P w = .ok v w ∧ VR w c.B (okb c.ok0 c.B O) O d v := by
  have e1 := toList_mk a
  have e2 := toList_mk b
  cases op <;> simp only [binS] at h <;> try (cases h; done)
  case add =>
    split at h
    · rename_i hb
      injection h with h; subst h
      refine ⟨.string ⟨(a ++ b).toArray⟩, ?_, .mkS _⟩
      have hs : ¬ (((ByteArray.mk a.toArray).size + (ByteArray.mk b.toArray).size : Nat) : Int) > IntKind.i64.max := by
        have h1 : (ByteArray.mk a.toArray).size = a.length := by simp [ByteArray.size]
        have h2 : (ByteArray.mk b.toArray).size = b.length := by simp [ByteArray.size]
        rw [h1, h2]
        unfold bound at hb
        simp only [IntKind.max, IntKind.signed, IntKind.bits]
        omega
      simp only [binOp, Op.stringOp, hs, if_false]
      have : (ByteArray.mk a.toArray) ++ (ByteArray.mk b.toArray) = ByteArray.mk (a ++ b).toArray := by
        apply ByteArray.ext
        simp [ByteArray.data_append]
      rw [this]; rfl
    · cases h
  all_goals
    injection h with h; subst h
    refine ⟨_, ?_, .mkB _⟩
    simp only [binOp, Op.stringOp, e1, e2]
    rfl
end
end Go.Lg
