/- Part 3 of a logical reading of translated Go: what a frame holds is said by lists, and each operation is proved against the model. No conditions. -/
import Derived.Test.YtadlmpjlkfbnfacLg2
import Derived.Maps.AppendAt
import Derived.Deep.Slices
namespace Go.Lg
open Go.RowKit

structure PO where
  hv : Value
  len : Nat
  ty : TypeId
  sz : Nat
abbrev OM := Nat → Option PO

def okb (ok0 : Nat → Prop) (B : Nat) (O : OM) (b : Nat) : Prop := (b < B → ok0 b) ∧ ∀ k p, O k = some p → p.hv.ownBlock ≠ some b

/-- A value that may lie in a cell, and what is said of it. -/
inductive CR (w : World) (B : Nat) (ok : Nat → Prop) : DV → Value → Prop
  | i (n : Int) : CR w B ok (.i n) (.int .i64 n)
  | y (n : Nat) (hn : n < 256) : CR w B ok (.y n) (.int .u8 n)
  | b (x : Bool) : CR w B ok (.b x) (.bool x)
  | s (l : List UInt8) : CR w B ok (.s l) (.string ⟨l.toArray⟩)
  | sl0 (p : Nat) (A : Option Addr) (cap : Nat) (hm : cap ≤ maxLen) : CR w B ok (.sl p []) (.slice A 0 cap)
  | sl (p : Nat) (es : List DV) (ad : Addr) (n cap sz : Nat) (xs : List Value) (hn : es.length = n) (h0 : 0 < n) (hc : n ≤ cap) (hm : cap ≤ maxLen)
      (hsz : ∀ e ∈ es, e.cells.length = sz) (hok : ok ad.block) (hlt : ad.block < w.heap.size) (hold : p = 0 → ad.block < B) (hnew : p = 1 ∨ p = 3 → B ≤ ad.block)
      (hrow : p = 1 → ∃ ty, w.ownsRow 0 ty sz (.slice (some ad) n cap) n xs) (hl : xs.length = (flat es).length) (hcell : ∀ (j : Nat) (u : Value), xs[j]? = some u → w.cell? (ad.add j) = some u)
      (hrec : ∀ (j : Nat) (c : DV) (u : Value), (flat es)[j]? = some c → xs[j]? = some u → CR w B ok c u) : CR w B ok (.sl p es) (.slice (some ad) n cap)

theorem ownsRow_keep {w w' : World} {ty : TypeId} {sz : Nat} {ad : Addr} {n m cap : Nat} {xs : List Value} (h : w.ownsRow 0 ty sz (.slice (some ad) n cap) m xs) (hw : w'.heap[ad.block]? = w.heap[ad.block]?) : w'.ownsRow 0 ty sz (.slice (some ad) n cap) m xs := by
  refine ⟨h.1, ?_⟩
  rcases h.2 with ⟨h0, _⟩ | ⟨g, cp, cur, hv, h1, h2, h3⟩
  · cases h0
  · injection hv with hv _ _
    injection hv with hv
    subst hv
    exact .inr ⟨g, cp, cur, by simp_all, h1, hw.trans h2, h3⟩

theorem CR.keep {w w' : World} {B B' : Nat} {ok ok' : Nat → Prop} {d : DV} {v : Value} (h : CR w B ok d v)
    (hw : ∀ b, ok b → b < w.heap.size → w'.heap[b]? = w.heap[b]?) (hs : w.heap.size ≤ w'.heap.size) (hok : ∀ b, ok b → b < w.heap.size → ok' b) (hB : B = B') : CR w' B' ok' d v := by
  subst hB
  induction h with
  | i n => exact .i n
  | y n hn => exact .y n hn
  | b x => exact .b x
  | s l => exact .s l
  | sl0 p A cap hm => exact .sl0 p A cap hm
  | sl p es ad n cap sz xs hn h0 hc hm hsz hok1 hlt hold hnew hrow hl hcell hrec ih =>
    refine .sl p es ad n cap sz xs hn h0 hc hm hsz (hok _ hok1 hlt) (by omega) hold hnew (fun hp => (hrow hp).imp fun ty h => ownsRow_keep h (hw _ hok1 hlt)) hl (fun j u hu => ?_) ih
    rw [← hcell j u hu]
    refine World.cell?_of_block ?_
    have : (ad.add j).block = ad.block := by unfold Addr.add; split <;> rfl
    rw [this]
    exact hw _ hok1 hlt

theorem CR.oneCell {w : World} {B : Nat} {ok : Nat → Prop} {d : DV} {v : Value} (h : CR w B ok d v) : v.oneCell' = true := by
  cases h <;> rfl
theorem CR.cells {w : World} {B : Nat} {ok : Nat → Prop} {d : DV} {v : Value} (h : CR w B ok d v) : d.cells = [d] ∧ v.cells = #[v] := by
  cases h <;> exact ⟨rfl, rfl⟩

def view (p : PO) (lo hi : Nat) (v : Value) : Prop :=
  ∃ A c, v = .slice A (hi - lo) c ∧ hi - lo ≤ c ∧ c ≤ maxLen ∧ (lo < hi → ∃ g, p.hv.ownBlock = some g ∧ A = some ⟨g, lo * p.sz, none⟩) ∧ (lo = 0 → hi = p.len → v = p.hv)

/-- Cells and what is said of them, one by one. -/
def CRs (w : World) (B : Nat) (ok : Nat → Prop) (cs : List DV) (xs : List Value) : Prop :=
  xs.length = cs.length ∧ ∀ (j : Nat) (c : DV) (u : Value), cs[j]? = some c → xs[j]? = some u → CR w B ok c u

inductive VR (w : World) (B : Nat) (ok : Nat → Prop) (O : OM) : DV → Value → Prop
  | cr (d : DV) (v : Value) (h : CR w B ok d v) : VR w B ok O d v
  | st (cs : List DV) (vs : Array Value) (h : CRs w B ok cs vs.toList) : VR w B ok O (.st cs) (.agg vs)
  | nil : VR w B ok O .nil (.slice none 0 0)
  | np : VR w B ok O .np (.pointer none)
  | und : VR w B ok O .und undef
  | dead (v : Value) : VR w B ok O .dead v
  | adr (d : DV) (ad : Addr) (xs : List Value) (hok : ok ad.block) (hlt : ad.block < w.heap.size) (hcell : ∀ (j : Nat) (u : Value), xs[j]? = some u → w.cell? (ad.add j) = some u)
      (h : CRs w B ok d.cells xs) : VR w B ok O (.adr d) (.pointer (some ad))
  | own (k n lo hi : Nat) (p : PO) (v : Value) (hO : O k = some p) (hn : p.len = n) (h1 : lo ≤ hi) (h2 : hi ≤ n) (hv : view p lo hi v) : VR w B ok O (.own k n lo hi) v
  | ownS (k n lo hi : Nat) (A : Option Addr) (cap : Nat) (hO : ∀ p, O k = some p → n < p.len) : VR w B ok O (.own k n lo hi) (.slice A (hi - lo) cap)
  | oad (k n a o : Nat) (p : PO) (g : Nat) (hO : O k = some p) (hn : p.len = n) (hg : p.hv.ownBlock = some g) : VR w B ok O (.oad k n a o) (.pointer (some ⟨g, a * p.sz + o, none⟩))
  | oadS (k n a o : Nat) (ad : Addr) (hO : ∀ p, O k = some p → n < p.len) : VR w B ok O (.oad k n a o) (.pointer (some ad))
  | tup (ds : List DV) (vs : Array Value) (hl : vs.size = ds.length) (hnt : ∀ d ∈ ds, ∀ es, d ≠ .tup es) (h : ∀ (j : Nat) (d : DV) (u : Value), ds[j]? = some d → vs[j]? = some u → VR w B ok O d u) : VR w B ok O (.tup ds) (.tuple vs)

/-- From one memory to the next: what could be read can be read; 'N': the objects that are new. -/
structure Tr (ok0 : Nat → Prop) (B : Nat) (N : Nat → Prop) (w : World) (O : OM) (w' : World) (O' : OM) : Prop where
  size : w.heap.size ≤ w'.heap.size
  heap : ∀ b, okb ok0 B O b → b < w.heap.size → w'.heap[b]? = w.heap[b]?
  ok : ∀ b, okb ok0 B O b → b < w.heap.size → okb ok0 B O' b
  obj : ∀ k p', ¬ N k → O' k = some p' → O k = some p' ∨ ∃ p, O k = some p ∧ p.len < p'.len

theorem Tr.refl (ok0 : Nat → Prop) (B : Nat) (N : Nat → Prop) (w : World) (O : OM) : Tr ok0 B N w O w O := ⟨Nat.le_refl _, fun _ _ _ => rfl, fun _ h _ => h, fun _ _ _ h => .inl h⟩
theorem Tr.trans {ok0 : Nat → Prop} {B : Nat} {N M : Nat → Prop} {w w1 w2 : World} {O O1 O2 : OM} (h : Tr ok0 B N w O w1 O1) (k : Tr ok0 B M w1 O1 w2 O2) : Tr ok0 B (fun x => N x ∨ M x) w O w2 O2 := by
  refine ⟨Nat.le_trans h.size k.size, fun b hb hlt => (k.heap b (h.ok b hb hlt) (Nat.lt_of_lt_of_le hlt h.size)).trans (h.heap b hb hlt), fun b hb hlt => k.ok b (h.ok b hb hlt) (Nat.lt_of_lt_of_le hlt h.size), fun x p' hN hp => ?_⟩
  rcases k.obj x p' (fun hm => hN (.inr hm)) hp with h1 | ⟨p, h1, h2⟩
  · exact h.obj x p' (fun hn => hN (.inl hn)) h1
  · rcases h.obj x p (fun hn => hN (.inl hn)) h1 with h3 | ⟨q, h3, h4⟩
    · exact .inr ⟨p, h3, h2⟩
    · exact .inr ⟨q, h3, by omega⟩

theorem CR.tr {ok0 : Nat → Prop} {B : Nat} {N : Nat → Prop} {w w' : World} {O O' : OM} {d : DV} {v : Value} (h : CR w B (okb ok0 B O) d v) (t : Tr ok0 B N w O w' O') : CR w' B (okb ok0 B O') d v :=
  h.keep t.heap t.size t.ok rfl
theorem CRs.tr {ok0 : Nat → Prop} {B : Nat} {N : Nat → Prop} {w w' : World} {O O' : OM} {cs : List DV} {xs : List Value} (h : CRs w B (okb ok0 B O) cs xs) (t : Tr ok0 B N w O w' O') : CRs w' B (okb ok0 B O') cs xs :=
  ⟨h.1, fun j c u h1 h2 => (h.2 j c u h1 h2).tr t⟩

theorem mentions_tup {id : Nat} {ds : List DV} (h : (DV.tup ds).mentions id = false) {j : Nat} {d : DV} (hd : ds[j]? = some d) (ht : ∀ es, d ≠ .tup es) : d.mentions id = false := by
  have hm : d ∈ ds := List.mem_of_getElem? hd
  simp only [DV.mentions, List.any_eq_false] at h
  have := h d hm
  cases d <;> simp_all [DV.mentions]

theorem VR.tr {ok0 : Nat → Prop} {B : Nat} {N : Nat → Prop} {w w' : World} {O O' : OM} {d : DV} {v : Value} (h : VR w B (okb ok0 B O) O d v) (t : Tr ok0 B N w O w' O')
    (hd : ∀ id, N id → d.mentions id = false) : VR w' B (okb ok0 B O') O' d v := by
  induction h with
  | cr d v h => exact .cr _ _ (h.tr t)
  | st cs vs h => exact .st _ _ (h.tr t)
  | nil => exact .nil
  | np => exact .np
  | und => exact .und
  | dead v => exact .dead v
  | adr d ad xs hok hlt hcell h =>
    refine .adr d ad xs (t.ok _ hok hlt) (Nat.lt_of_lt_of_le hlt t.size) (fun j u hu => ?_) (h.tr t)
    rw [← hcell j u hu]
    refine World.cell?_of_block ?_
    have : (ad.add j).block = ad.block := by unfold Addr.add; split <;> rfl
    rw [this]
    exact t.heap _ hok hlt
  | own k n lo hi p v hO hn h1 h2 hv =>
    have hN : ¬ N k := fun hk => by have := hd k hk; simp [DV.mentions] at this
    cases hO' : O' k with
    | none =>
      obtain ⟨A, c, rfl, _⟩ := hv
      exact .ownS k n lo hi A c (fun p' hp' => by rw [hO'] at hp'; cases hp')
    | some p' =>
      rcases t.obj k p' hN hO' with h3 | ⟨q, h3, h4⟩
      · rw [hO] at h3
        injection h3 with h3
        subst h3
        exact .own k n lo hi p v hO' hn h1 h2 hv
      · rw [hO] at h3
        injection h3 with h3
        subst h3
        obtain ⟨A, c, rfl, _⟩ := hv
        exact .ownS k n lo hi A c (fun p'' hp' => by rw [hO'] at hp'; injection hp' with hp'; subst hp'; omega)
  | ownS k n lo hi A cap hO =>
    have hN : ¬ N k := fun hk => by have := hd k hk; simp [DV.mentions] at this
    refine .ownS k n lo hi A cap (fun p' hp' => ?_)
    rcases t.obj k p' hN hp' with h3 | ⟨q, h3, h4⟩
    · exact hO _ h3
    · have := hO _ h3; omega
  | oad k n a o p g hO hn hg =>
    have hN : ¬ N k := fun hk => by have := hd k hk; simp [DV.mentions] at this
    cases hO' : O' k with
    | none => exact .oadS k n a o _ (fun p' hp' => by rw [hO'] at hp'; cases hp')
    | some p' =>
      rcases t.obj k p' hN hO' with h3 | ⟨q, h3, h4⟩
      · rw [hO] at h3
        injection h3 with h3
        subst h3
        exact .oad k n a o p g hO' hn hg
      · rw [hO] at h3
        injection h3 with h3
        subst h3
        exact .oadS k n a o _ (fun p'' hp' => by rw [hO'] at hp'; injection hp' with hp'; subst hp'; omega)
  | oadS k n a o ad hO =>
    have hN : ¬ N k := fun hk => by have := hd k hk; simp [DV.mentions] at this
    refine .oadS k n a o ad (fun p' hp' => ?_)
    rcases t.obj k p' hN hp' with h3 | ⟨q, h3, h4⟩
    · exact hO _ h3
    · have := hO _ h3; omega
  | tup ds vs hl hnt h ih =>
    exact .tup ds vs hl hnt (fun j d u h1 h2 => ih j d u h1 h2 (fun id hid => mentions_tup (hd id hid) h1 (hnt d (List.mem_of_getElem? h1))))
end Go.Lg
