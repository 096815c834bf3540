/- What the functions answer, as equations: E10. No conditions. -/
import Derived.Test.YtjallbfleicfnabDoorE5
set_option linter.unusedSectionVars false
set_option linter.unusedVariables false
set_option linter.unusedSimpArgs false
namespace Zz
open Go.Lg Md

/-! ### terms as trees -/
inductive Tm where
  | tst (a : Nat)
  | neg (x : Tm)
  | and (x y : Tm)
  | or (x y : Tm)
def flt : Tm → List T
  | .tst a => [(0, (a : Int))]
  | .neg x => flt x ++ [(1, 0)]
  | .and x y => flt x ++ flt y ++ [(2, 0)]
  | .or x y => flt x ++ flt y ++ [(3, 0)]
def tb (m : Int) : Tm → Prop
  | .tst a => (a : Int) < m
  | .neg x => tb m x
  | .and x y => tb m x ∧ tb m y
  | .or x y => tb m x ∧ tb m y
def ev (s : Nat) : Tm → Bool
  | .tst a => s.testBit a
  | .neg x => !ev s x
  | .and x y => ev s x && ev s y
  | .or x y => ev s x || ev s y
theorem flt_pos : ∀ x : Tm, 0 < (flt x).length
  | .tst a => by simp [flt]
  | .neg x => by simp [flt]
  | .and x y => by simp [flt]; omega
  | .or x y => by simp [flt]; omega
/-- how many parts a mark takes -/
def taken (k : Int) : Nat := if k = 0 then 0 else if k = 1 then 1 else 2
def stepG {P : Type} (mk : T → List P → P) (st : List P) (t : T) : List P := st.take (st.length - taken t.1) ++ [mk t (st.drop (st.length - taken t.1))]
def valG {P : Type} (mk : T → List P → P) : Tm → P
  | .tst a => mk (0, (a : Int)) []
  | .neg x => mk (1, 0) [valG mk x]
  | .and x y => mk (2, 0) [valG mk x, valG mk y]
  | .or x y => mk (3, 0) [valG mk x, valG mk y]
theorem stepG_0 {P : Type} (mk : T → List P → P) (st : List P) (a : Int) : stepG mk st (0, a) = st ++ [mk (0, a) []] := by
  simp [stepG, taken]
theorem stepG_1 {P : Type} (mk : T → List P → P) (st : List P) (x : P) (a : Int) : stepG mk (st ++ [x]) (1, a) = st ++ [mk (1, a) [x]] := by
  simp [stepG, taken]
theorem stepG_2 {P : Type} (mk : T → List P → P) (st : List P) (x y : P) (k a : Int) (h : k = 2 ∨ k = 3) : stepG mk (st ++ [x, y]) (k, a) = st ++ [mk (k, a) [x, y]] := by
  have e : taken k = 2 := by unfold taken; rw [if_neg (by omega), if_neg (by omega)]
  simp [stepG, e]
theorem last1 {α : Type} {l : List α} (h : 1 ≤ l.length) : ∃ r x, l = r ++ [x] := by
  have := List.dropLast_concat_getLast (l := l) (by intro e; rw [e] at h; simp at h)
  exact ⟨_, _, this.symm⟩
theorem last2 {α : Type} {l : List α} (h : 2 ≤ l.length) : ∃ r x y, l = r ++ [x, y] := by
  obtain ⟨r, y, rfl⟩ := last1 (by omega : 1 ≤ l.length)
  obtain ⟨r', x, rfl⟩ := last1 (by simp at h; omega : 1 ≤ r.length)
  exact ⟨r', x, y, by simp⟩
theorem forest {m : Int} : ∀ {ts : List T} {p q : Int}, runM m p ts = some q → ∀ F : List Tm, (F.length : Int) = p → (∀ x ∈ F, tb m x) →
    ∃ F' : List Tm, (F'.length : Int) = q ∧ (∀ x ∈ F', tb m x) ∧ F'.flatMap flt = F.flatMap flt ++ ts ∧ ∀ (P : Type) (mk : T → List P → P), ts.foldl (stepG mk) (F.map (valG mk)) = F'.map (valG mk)
  | [], p, q, h, F, hl, hb => by
    simp only [runM, Option.some.injEq] at h
    exact ⟨F, by omega, hb, by simp, fun P mk => rfl⟩
  | t :: ts, p, q, h, F, hl, hb => by
    simp only [runM] at h
    have go : ∀ (G : List Tm), runM m (G.length : Int) ts = some q → (∀ x ∈ G, tb m x) → G.flatMap flt = F.flatMap flt ++ [t] → (∀ (P : Type) (mk : T → List P → P), stepG mk (F.map (valG mk)) t = G.map (valG mk)) →
        ∃ F' : List Tm, (F'.length : Int) = q ∧ (∀ x ∈ F', tb m x) ∧ F'.flatMap flt = F.flatMap flt ++ (t :: ts) ∧ ∀ (P : Type) (mk : T → List P → P), (t :: ts).foldl (stepG mk) (F.map (valG mk)) = F'.map (valG mk) := by
      intro G h1 h2 h3 h4
      obtain ⟨F', q1, q2, q3, q4⟩ := forest h1 G rfl h2
      refine ⟨F', q1, q2, by rw [q3, h3]; simp, fun P mk => ?_⟩
      rw [List.foldl_cons, h4, q4]
    obtain ⟨k, a⟩ := t
    cases hm : mkS m p (k, a) with
    | none => rw [hm] at h; cases h
    | some p1 =>
      rw [hm] at h
      simp only at h
      unfold mkS at hm
      simp only at hm
      split at hm
      · rename_i hk
        subst hk
        split at hm
        · rename_i ha
          injection hm with hm
          obtain ⟨n, rfl⟩ := Int.eq_ofNat_of_zero_le ha.1
          refine go (F ++ [.tst n]) (by rw [show (((F ++ [Tm.tst n]).length : Nat) : Int) = p1 by simp; omega]; exact h) (fun x hx => ?_) (by simp [flt]) (fun P mk => by rw [stepG_0]; simp [valG])
          rcases List.mem_append.1 hx with h1 | h1
          · exact hb x h1
          · simp only [List.mem_singleton] at h1; subst h1; exact ha.2
        · cases hm
      · split at hm
        · rename_i _ hk
          subst hk
          split at hm
          · rename_i ha
            injection hm with hm
            obtain ⟨r, x, rfl⟩ := last1 (l := F) (by omega)
            have ha0 := ha.1
            subst ha0
            refine go (r ++ [.neg x]) (by rw [show (((r ++ [Tm.neg x]).length : Nat) : Int) = p1 by simp at hl ⊢; omega]; exact h) (fun y hy => ?_) (by simp [flt]) (fun P mk => by rw [List.map_append]; simp only [List.map_cons, List.map_nil]; rw [stepG_1]; simp [valG])
            rcases List.mem_append.1 hy with h1 | h1
            · exact hb y (List.mem_append_left _ h1)
            · simp only [List.mem_singleton] at h1; subst h1; exact hb x (by simp)
          · cases hm
        · split at hm
          · rename_i _ _ hk
            split at hm
            · rename_i ha
              injection hm with hm
              obtain ⟨r, x, y, rfl⟩ := last2 (l := F) (by omega)
              have ha0 := ha.1
              subst ha0
              have hx := hb x (by simp)
              have hy := hb y (by simp)
              rcases hk with rfl | rfl
              · refine go (r ++ [.and x y]) (by rw [show (((r ++ [Tm.and x y]).length : Nat) : Int) = p1 by simp at hl ⊢; omega]; exact h) (fun z hz => ?_) (by simp [flt]) (fun P mk => by rw [List.map_append]; simp only [List.map_cons, List.map_nil]; rw [stepG_2 _ _ _ _ _ _ (.inl rfl)]; simp [valG])
                rcases List.mem_append.1 hz with h1 | h1
                · exact hb z (List.mem_append_left _ h1)
                · simp only [List.mem_singleton] at h1; subst h1; exact ⟨hx, hy⟩
              · refine go (r ++ [.or x y]) (by rw [show (((r ++ [Tm.or x y]).length : Nat) : Int) = p1 by simp at hl ⊢; omega]; exact h) (fun z hz => ?_) (by simp [flt]) (fun P mk => by rw [List.map_append]; simp only [List.map_cons, List.map_nil]; rw [stepG_2 _ _ _ _ _ _ (.inr rfl)]; simp [valG])
                rcases List.mem_append.1 hz with h1 | h1
                · exact hb z (List.mem_append_left _ h1)
                · simp only [List.mem_singleton] at h1; subst h1; exact ⟨hx, hy⟩
            · cases hm
          · cases hm
theorem tm_tree {m : Int} {ts : List T} (h : tmOk m ts = true) : ∃ x, tb m x ∧ flt x = ts ∧ ∀ (P : Type) (mk : T → List P → P), ts.foldl (stepG mk) [] = [valG mk x] := by
  obtain ⟨_, _, h3⟩ := tmOk_iff.1 h
  obtain ⟨F, q1, q2, q3, q4⟩ := forest h3 [] rfl (by simp)
  match F, q1 with
  | [x], _ => exact ⟨x, q2 x (by simp), by simpa using q3, fun P mk => by simpa using q4 P mk⟩

/-! ### values in all states, as bits -/
def yesW (a : Nat) : BitVec 32 := match a with
  | 0 => 2863311530#32
  | 1 => 3435973836#32
  | 2 => 4042322160#32
  | 3 => 4278255360#32
  | _ => 4294901760#32
def mkW (t : T) (ps : List (BitVec 32)) : BitVec 32 :=
  if t.1 = 0 then yesW t.2.toNat else if t.1 = 1 then ~~~(ps.getD 0 0) else if t.1 = 2 then ps.getD 0 0 &&& ps.getD 1 0 else ps.getD 0 0 ||| ps.getD 1 0
theorem yes_bit : ∀ (a : Fin 5) (s : Fin 32), (yesW a.val).getLsbD s.val = s.val.testBit a.val := by decide +kernel
theorem val_bit {m : Int} (hm : m ≤ 5) : ∀ {x : Tm}, tb m x → ∀ {s : Nat}, s < 32 → (valG mkW x).getLsbD s = ev s x
  | .tst a, h, s, hs => by
    have ha : a < 5 := by have : (a : Int) < m := h; omega
    have := yes_bit ⟨a, ha⟩ ⟨s, hs⟩
    simpa [valG, mkW, ev] using this
  | .neg x, h, s, hs => by
    have ih := val_bit hm (x := x) h hs
    have e : valG mkW (.neg x) = ~~~(valG mkW x) := by simp [valG, mkW]
    rw [e, BitVec.getLsbD_not, ih]
    simp [hs, ev]
  | .and x y, h, s, hs => by
    have i1 := val_bit hm (x := x) h.1 hs
    have i2 := val_bit hm (x := y) h.2 hs
    simp [valG, mkW, ev, i1, i2]
  | .or x y, h, s, hs => by
    have i1 := val_bit hm (x := x) h.1 hs
    have i2 := val_bit hm (x := y) h.2 hs
    simp [valG, mkW, ev, i1, i2]
def tsW (ts : List T) : BitVec 32 := (ts.foldl (stepG mkW) []).headD 0
/-- the value of a term in a state -/
def tv (ts : List T) (s : Nat) : Bool := (tsW ts).getLsbD s
theorem tv_tree {m : Int} {ts : List T} (h : tmOk m ts = true) : ∃ x, tb m x ∧ flt x = ts ∧ ts.foldl (stepG mkW) [] = [tsW ts] ∧ ∀ s, s < 32 → tv ts s = ev s x := by
  obtain ⟨h1, _, _⟩ := tmOk_iff.1 h
  obtain ⟨x, b, f, g⟩ := tm_tree h
  have e : tsW ts = valG mkW x := by unfold tsW; rw [g]; rfl
  exact ⟨x, b, f, by rw [g, e], fun s hs => by unfold tv; rw [e]; exact val_bit h1.2 b hs⟩
/-- A term reads no tests but its own. -/
theorem ev_congr {m : Int} {s s' : Nat} (h : ∀ a : Nat, (a : Int) < m → s.testBit a = s'.testBit a) : ∀ {x : Tm}, tb m x → ev s x = ev s' x
  | .tst a, hb => h a hb
  | .neg x, hb => by simp only [ev, ev_congr h (x := x) hb]
  | .and x y, hb => by simp only [ev, ev_congr h (x := x) hb.1, ev_congr h (x := y) hb.2]
  | .or x y, hb => by simp only [ev, ev_congr h (x := x) hb.1, ev_congr h (x := y) hb.2]
end Zz
