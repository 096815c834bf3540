/- Part 4 of a logical reading of translated Go: what a frame holds is said by lists, and each operation is proved against the model. No conditions. -/
import Derived.Test.YtadlmpjlkfbnfacLg3
namespace Go.Lg
open Go.RowKit

theorem lookO_put (ob : OB) (t k : Nat) (es : List DV) : lookO (putO ob t es) k = if k = t then some es else lookO ob k := by
  induction ob with
  | nil => simp [putO, lookO, eq_comm]
  | cons a r ih =>
    obtain ⟨j, e⟩ := a
    simp only [putO]
    split
    · simp only [lookO]; by_cases h : t = k <;> simp [h, eq_comm]
    · split
      · rename_i h1 h2
        subst h2
        simp only [lookO]
        by_cases h : t = k <;> simp [h, eq_comm]
      · simp only [lookO, ih]
        by_cases h : j = k
        · subst h
          rename_i h1 h2
          simp [Ne.symm h2]
        · simp [h]
theorem lookO_filter (ob : OB) (f : Nat → Bool) (k : Nat) : lookO (ob.filter fun p => f p.1) k = if f k = true then lookO ob k else none := by
  induction ob with
  | nil => simp [lookO]
  | cons a r ih =>
    obtain ⟨j, e⟩ := a
    by_cases hf : f j = true
    · simp only [List.filter_cons, hf, if_true, lookO, ih]
      by_cases h : j = k
      · subst h; simp [hf]
      · simp [h]
    · simp only [List.filter_cons, hf, Bool.false_eq_true, if_false, ih, lookO]
      by_cases h : j = k
      · subst h; simp [hf]
      · simp [h]
theorem lookO_drop (ob : OB) (t k : Nat) : lookO (dropO ob t) k = if k = t then none else lookO ob k := by
  unfold dropO
  rw [lookO_filter ob (fun j => !(j == t)) k]
  by_cases h : k = t <;> simp [h]
theorem look_put (e : Env) (t k : Nat) (d : DV) : look (put e t d) k = if k = t then d else look e k := by
  induction e with
  | nil => simp [put, look, eq_comm]
  | cons a r ih =>
    obtain ⟨j, x⟩ := a
    simp only [put]
    split
    · simp only [look]; by_cases h : t = k <;> simp [h, eq_comm]
    · split
      · rename_i h1 h2
        subst h2
        simp only [look]
        by_cases h : t = k <;> simp [h, eq_comm]
      · simp only [look, ih]
        by_cases h : j = k
        · subst h
          rename_i h1 h2
          simp [Ne.symm h2]
        · simp [h]
theorem look_kill (ks : List Nat) (e : Env) (t : Nat) : look (killE ks e) t = if ks.contains t then .dead else look e t := by
  induction e with
  | nil => simp [killE, look]
  | cons a r ih =>
    obtain ⟨j, x⟩ := a
    unfold killE at ih ⊢
    by_cases hc : ks.contains j = true
    · simp only [List.filter_cons, hc, Bool.not_true, Bool.false_eq_true, if_false, ih, look]
      by_cases h : j = t
      · subst h; simp_all
      · simp [h]
    · simp only [List.filter_cons, hc, Bool.not_false, if_true, ih, look]
      by_cases h : j = t
      · subst h; simp_all
      · simp [h]

structure Cx where
  w0 : World
  ok0 : Nat → Prop
  refs : List (Nat × PO)
abbrev Cx.B (c : Cx) : Nat := c.w0.heap.size

structure OR (w : World) (B : Nat) (ok : Nat → Prop) (p : PO) (es : List DV) : Prop where
  len : p.len = es.length
  pos : 0 < p.sz
  wid : ∀ e ∈ es, e.cells.length = p.sz
  row : ∃ xs, w.ownsRow 0 p.ty p.sz p.hv p.len xs ∧ CRs w B ok (flat es) xs

structure MR (c : Cx) (O : OM) (ob : OB) (w : World) : Prop where
  os : w.os = c.w0.os
  tape : w.tape = c.w0.tape
  output : w.output = c.w0.output
  size : c.B ≤ w.heap.size
  frame : ∀ b, b < c.B → (∀ r ∈ c.refs, r.2.hv.ownBlock ≠ some b) → w.heap[b]? = c.w0.heap[b]?
  dom : ∀ k, O k = none ↔ lookO ob k = none
  obj : ∀ k p es, O k = some p → lookO ob k = some es → OR w c.B (okb c.ok0 c.B O) p es
  inj : ∀ k k' p p' g, O k = some p → O k' = some p' → p.hv.ownBlock = some g → p'.hv.ownBlock = some g → k = k'
  base : ∀ k p g, O k = some p → p.hv.ownBlock = some g → c.B ≤ g ∨ (k % 8 = 7 ∧ ∃ r ∈ c.refs, r.2.hv.ownBlock = some g)
  sz : ∀ k p, O k = some p → p.sz = szId k
  refs : ∀ r ∈ c.refs, ∀ p, O r.1 = some p → p = r.2

theorem MR.get {c : Cx} {O : OM} {ob : OB} {w : World} (h : MR c O ob w) {k : Nat} {es : List DV} (hk : lookO ob k = some es) : ∃ p, O k = some p ∧ OR w c.B (okb c.ok0 c.B O) p es := by
  cases hO : O k with
  | none => have := (h.dom k).1 hO; rw [hk] at this; cases this
  | some p => exact ⟨p, rfl, h.obj k p es hO hk⟩
theorem MR.get' {c : Cx} {O : OM} {ob : OB} {w : World} (h : MR c O ob w) {k : Nat} {p : PO} (hO : O k = some p) : ∃ es, lookO ob k = some es ∧ OR w c.B (okb c.ok0 c.B O) p es := by
  cases hk : lookO ob k with
  | none => have := (h.dom k).2 hk; rw [hO] at this; cases this
  | some es => exact ⟨es, rfl, h.obj k p es hO hk⟩
theorem MR.lt {c : Cx} {O : OM} {ob : OB} {w : World} (h : MR c O ob w) {k : Nat} {p : PO} {g : Nat} (hO : O k = some p) (hg : p.hv.ownBlock = some g) : g < w.heap.size := by
  obtain ⟨es, _, ho⟩ := h.get' hO
  obtain ⟨xs, hr, _⟩ := ho.row
  exact (hr.lt g hg).2

def upd (O : OM) (k : Nat) (x : Option PO) : OM := fun j => if j = k then x else O j
theorem upd_same (O : OM) (k : Nat) (x : Option PO) : upd O k x k = x := by simp [upd]
theorem upd_other (O : OM) {k j : Nat} (x : Option PO) (h : j ≠ k) : upd O k x j = O j := by simp [upd, h]

theorem OR.tr {ok0 : Nat → Prop} {B : Nat} {N : Nat → Prop} {w w' : World} {O O' : OM} {p : PO} {es : List DV} (h : OR w B (okb ok0 B O) p es) (t : Tr ok0 B N w O w' O')
    (hb : ∀ g, p.hv.ownBlock = some g → w'.heap[g]? = w.heap[g]?) : OR w' B (okb ok0 B O') p es := by
  refine ⟨h.len, h.pos, h.wid, ?_⟩
  obtain ⟨xs, hr, hc⟩ := h.row
  refine ⟨xs, ⟨hr.1, ?_⟩, hc.tr t⟩
  rcases hr.2 with h0 | ⟨g, cap, cur, hv, h1, h2, h3⟩
  · exact .inl h0
  · refine .inr ⟨g, cap, cur, hv, h1, ?_, h3⟩
    rw [hb g (by rw [hv]; rfl)]
    exact h2

/-- Fewer objects. -/
theorem MR.less {c : Cx} {O : OM} {ob : OB} {w : World} (h : MR c O ob w) (f : Nat → Bool) :
    MR c (fun k => if f k = true then O k else none) (ob.filter fun p => f p.1) w ∧ Tr c.ok0 c.B (fun _ => False) w O w (fun k => if f k = true then O k else none) := by
  have ht : Tr c.ok0 c.B (fun _ => False) w O w (fun k => if f k = true then O k else none) := by
    refine ⟨Nat.le_refl _, fun _ _ _ => rfl, fun b hb _ => ⟨hb.1, fun k p hk => ?_⟩, fun k p' _ hk => .inl ?_⟩
    · (try dsimp only at hk)
      split at hk
      · exact hb.2 k p hk
      · cases hk
    · (try dsimp only at hk)
      split at hk
      · exact hk
      · cases hk
  have hget : ∀ {k : Nat} {p : PO}, (if f k = true then O k else none) = some p → O k = some p := fun hk => by
    split at hk
    · exact hk
    · cases hk
  refine ⟨⟨h.os, h.tape, h.output, h.size, h.frame, fun k => ?_, fun k p es hk he => ?_, fun k k' p p' g hk hk' => h.inj k k' p p' g (hget hk) (hget hk'), fun k p g hk => h.base k p g (hget hk), fun k p hk => h.sz k p (hget hk), fun r hr p hk => h.refs r hr p (hget hk)⟩, ht⟩
  · rw [lookO_filter]
    by_cases hf : f k = true
    · simp only [hf, if_true]; exact h.dom k
    · simp [hf]
  · rw [lookO_filter] at he
    split at he
    · exact (h.obj k p es (hget hk) he).tr ht (fun _ _ => rfl)
    · cases he

theorem MR.drop {c : Cx} {O : OM} {ob : OB} {w : World} (h : MR c O ob w) (id : Nat) :
    MR c (upd O id none) (dropO ob id) w ∧ Tr c.ok0 c.B (fun _ => False) w O w (upd O id none) := by
  have e : (fun k => if (!(k == id)) = true then O k else none) = upd O id none := by
    funext k
    by_cases hk : k = id <;> simp [upd, hk]
  have := h.less (fun k => !(k == id))
  rw [e] at this
  exact this

/-- A new object in a new block. -/
theorem MR.new {c : Cx} {O : OM} {ob : OB} {w : World} (h : MR c O ob w) (id : Nat) (hid : ∀ r ∈ c.refs, r.1 ≠ id) (es : List DV) (cur : Array Value) (n cap sz : Nat) (ty : TypeId) (xs : List Value)
    (hz : sz = szId id) (hn : es.length = n) (hc : n ≤ cap) (hm : cap ≤ maxLen) (hsz : 0 < sz) (hw : ∀ e ∈ es, e.cells.length = sz) (hcur : cur.size = cap * sz) (hxs : cur.toList.take (n * sz) = xs) (hx : xs.length = n * sz)
    (hcr : CRs w c.B (okb c.ok0 c.B O) (flat es) xs) :
    MR c (upd O id (some ⟨.slice (some ⟨w.heap.size, 0, none⟩) n cap, n, ty, sz⟩)) (putO ob id es) (w.alloc (.cells cur ty)) ∧
    Tr c.ok0 c.B (fun k => k = id) w O (w.alloc (.cells cur ty)) (upd O id (some ⟨.slice (some ⟨w.heap.size, 0, none⟩) n cap, n, ty, sz⟩)) := by
  have hold : ∀ b, b < w.heap.size → (w.alloc (.cells cur ty)).heap[b]? = w.heap[b]? := fun b hb => Below.heap_alloc w _ b hb
  have ht : Tr c.ok0 c.B (fun k => k = id) w O (w.alloc (.cells cur ty)) (upd O id (some ⟨.slice (some ⟨w.heap.size, 0, none⟩) n cap, n, ty, sz⟩)) := by
    refine ⟨by simp, fun b _ hb => hold b hb, fun b hb hlt => ⟨hb.1, fun k p hk => ?_⟩, fun k p' hk hp => .inl ?_⟩
    · by_cases hki : k = id
      · subst hki
        rw [upd_same] at hk
        injection hk with hk
        subst hk
        simp only [Value.ownBlock, ne_eq, Option.some.injEq]
        omega
      · rw [upd_other O _ hki] at hk
        exact hb.2 k p hk
    · rw [upd_other O _ hk] at hp
      exact hp
  refine ⟨⟨h.os, h.tape, h.output, ?_, fun b hb hr => ?_, fun k => ?_, fun k p es' hk he => ?_, fun k k' p p' g hk hk' hg hg' => ?_, fun k p g hk hg => ?_, fun k p hk => ?_, fun r hr p hp => ?_⟩, ht⟩
  · simp only [World.size_alloc]; have := h.size; omega
  · rw [hold b (Nat.lt_of_lt_of_le hb h.size)]; exact h.frame b hb hr
  · rw [lookO_put]
    by_cases hki : k = id
    · simp [hki, upd]
    · simp only [upd, hki, if_false]; exact h.dom k
  · rw [lookO_put] at he
    by_cases hki : k = id
    · subst hki
      rw [upd_same] at hk
      injection hk with hk
      simp only [if_true] at he
      injection he with he
      subst hk; subst he
      refine ⟨hn.symm, hsz, hw, xs, ⟨hx, .inr ⟨w.heap.size, cap, cur, rfl, Nat.zero_le _, ?_, hc, hm, hcur, hxs⟩⟩, hcr.tr ht⟩
      exact heap_alloc_new w _
    · rw [upd_other O _ hki] at hk
      rw [if_neg hki] at he
      exact (h.obj k p es' hk he).tr ht (fun g hg => hold g (h.lt hk hg))
  · by_cases h1 : k = id <;> by_cases h2 : k' = id
    · rw [h1, h2]
    · subst h1
      rw [upd_same] at hk
      rw [upd_other O _ h2] at hk'
      injection hk with hk
      subst hk
      simp only [Value.ownBlock, Option.some.injEq] at hg
      have := h.lt hk' hg'
      omega
    · subst h2
      rw [upd_same] at hk'
      rw [upd_other O _ h1] at hk
      injection hk' with hk'
      subst hk'
      simp only [Value.ownBlock, Option.some.injEq] at hg'
      have := h.lt hk hg
      omega
    · rw [upd_other O _ h1] at hk
      rw [upd_other O _ h2] at hk'
      exact h.inj k k' p p' g hk hk' hg hg'
  · by_cases hki : k = id
    · subst hki
      rw [upd_same] at hk
      injection hk with hk
      subst hk
      simp only [Value.ownBlock, Option.some.injEq] at hg
      have := h.size
      left; omega
    · rw [upd_other O _ hki] at hk
      exact h.base k p g hk hg
  · by_cases hki : k = id
    · subst hki
      rw [upd_same] at hk
      injection hk with hk
      subst hk
      exact hz
    · rw [upd_other O _ hki] at hk
      exact h.sz k p hk
  · rw [upd_other O _ (hid r hr)] at hp
    exact h.refs r hr p hp

/-- An owned nil slice. -/
theorem MR.newNil {c : Cx} {O : OM} {ob : OB} {w : World} (h : MR c O ob w) (id : Nat) (hid : ∀ r ∈ c.refs, r.1 ≠ id) (sz : Nat) (ty : TypeId) (hsz : 0 < sz) (hz : sz = szId id) :
    MR c (upd O id (some ⟨.slice none 0 0, 0, ty, sz⟩)) (putO ob id []) w ∧ Tr c.ok0 c.B (fun k => k = id) w O w (upd O id (some ⟨.slice none 0 0, 0, ty, sz⟩)) := by
  have ht : Tr c.ok0 c.B (fun k => k = id) w O w (upd O id (some ⟨.slice none 0 0, 0, ty, sz⟩)) := by
    refine ⟨Nat.le_refl _, fun b _ hb => rfl, fun b hb hlt => ⟨hb.1, fun k p hk => ?_⟩, fun k p' hk hp => .inl ?_⟩
    · by_cases hki : k = id
      · subst hki
        rw [upd_same] at hk
        injection hk with hk
        subst hk
        simp [Value.ownBlock]
      · rw [upd_other O _ hki] at hk
        exact hb.2 k p hk
    · rw [upd_other O _ hk] at hp
      exact hp
  have hno : ∀ {k : Nat} {p : PO} {g : Nat}, upd O id (some ⟨.slice none 0 0, 0, ty, sz⟩) k = some p → p.hv.ownBlock = some g → k ≠ id ∧ O k = some p := by
    intro k p g hk hg
    by_cases hki : k = id
    · subst hki
      rw [upd_same] at hk
      injection hk with hk
      subst hk
      simp [Value.ownBlock] at hg
    · rw [upd_other O _ hki] at hk
      exact ⟨hki, hk⟩
  refine ⟨⟨h.os, h.tape, h.output, h.size, h.frame, fun k => ?_, fun k p es' hk he => ?_, fun k k' p p' g hk hk' hg hg' => h.inj k k' p p' g (hno hk hg).2 (hno hk' hg').2 hg hg', fun k p g hk hg => h.base k p g (hno hk hg).2 hg, fun k p hk => ?_, fun r hr p hp => ?_⟩, ht⟩
  · rw [lookO_put]
    by_cases hki : k = id
    · simp [hki, upd]
    · simp only [upd, hki, if_false]; exact h.dom k
  · rw [lookO_put] at he
    by_cases hki : k = id
    · subst hki
      rw [upd_same] at hk
      injection hk with hk
      simp only [if_true] at he
      injection he with he
      subst hk; subst he
      exact ⟨rfl, hsz, by simp, [], ⟨by simp, .inl ⟨rfl, rfl⟩⟩, by simp [flat], by simp [flat]⟩
    · rw [upd_other O _ hki] at hk
      rw [if_neg hki] at he
      exact (h.obj k p es' hk he).tr ht (fun _ _ => rfl)
  · by_cases hki : k = id
    · subst hki
      rw [upd_same] at hk
      injection hk with hk
      subst hk
      exact hz
    · rw [upd_other O _ hki] at hk
      exact h.sz k p hk
  · rw [upd_other O _ (hid r hr)] at hp
    exact h.refs r hr p hp

/-- An object turns: the same place, or (if it grows) perhaps another one. -/
theorem MR.turn {c : Cx} {O : OM} {ob : OB} {w w' : World} (h : MR c O ob w) {k : Nat} {p p' : PO} {es' : List DV} (hO : O k = some p)
    (hos : w'.os = w.os) (htp : w'.tape = w.tape) (hout : w'.output = w.output) (hs : w.heap.size ≤ w'.heap.size)
    (hheap : ∀ b, b < w.heap.size → p.hv.ownBlock ≠ some b → w'.heap[b]? = w.heap[b]?)
    (hblk : p'.hv.ownBlock = p.hv.ownBlock ∨ ∃ g, p'.hv.ownBlock = some g ∧ w.heap.size ≤ g) (hnr : p' = p ∨ ∀ r ∈ c.refs, r.1 ≠ k)
    (hgrow : p' = p ∨ p.len < p'.len) (hz : p'.sz = p.sz)
    (hor : ∀ ok : Nat → Prop, (∀ b, b < w.heap.size → okb c.ok0 c.B O b → ok b) → (∀ (cs : List DV) (xs : List Value), CRs w c.B (okb c.ok0 c.B O) cs xs → CRs w' c.B ok cs xs) → OR w' c.B ok p' es') :
    MR c (upd O k (some p')) (putO ob k es') w' ∧ Tr c.ok0 c.B (fun _ => False) w O w' (upd O k (some p')) := by
  have ht : Tr c.ok0 c.B (fun _ => False) w O w' (upd O k (some p')) := by
    refine ⟨hs, fun b hb hlt => hheap b hlt (hb.2 k p hO), fun b hb hlt => ⟨hb.1, fun j q hj => ?_⟩, fun j q _ hj => ?_⟩
    · by_cases hjk : j = k
      · subst hjk
        rw [upd_same] at hj
        injection hj with hj
        subst hj
        rcases hblk with e | ⟨g, e, hg⟩
        · rw [e]; exact hb.2 j p hO
        · rw [e]; simp only [ne_eq, Option.some.injEq]; omega
      · rw [upd_other O _ hjk] at hj
        exact hb.2 j q hj
    · by_cases hjk : j = k
      · subst hjk
        rw [upd_same] at hj
        injection hj with hj
        subst hj
        rcases hgrow with e | e
        · exact .inl (by rw [hO, e])
        · exact .inr ⟨p, hO, e⟩
      · rw [upd_other O _ hjk] at hj
        exact .inl hj
  refine ⟨⟨hos.trans h.os, htp.trans h.tape, hout.trans h.output, Nat.le_trans h.size hs, fun b hb hr => ?_, fun j => ?_, fun j q es1 hj he => ?_, fun j j' q q' g hj hj' hg hg' => ?_, fun j q g hj hg => ?_, fun j q hj => ?_, fun r hr q hq => ?_⟩, ht⟩
  · rw [hheap b (Nat.lt_of_lt_of_le hb h.size) (fun e => ?_)]
    · exact h.frame b hb hr
    · rcases h.base k p b hO e with h1 | ⟨_, r, h1, h2⟩
      · omega
      · exact hr r h1 h2
  · rw [lookO_put]
    by_cases hjk : j = k
    · simp [hjk, upd]
    · simp only [upd, hjk, if_false]; exact h.dom j
  · rw [lookO_put] at he
    by_cases hjk : j = k
    · subst hjk
      rw [upd_same] at hj
      injection hj with hj
      simp only [if_true] at he
      injection he with he
      subst hj; subst he
      exact hor _ (fun b hb hok => ht.ok b hok hb) (fun cs xs hc => hc.tr ht)
    · rw [upd_other O _ hjk] at hj
      rw [if_neg hjk] at he
      exact (h.obj j q es1 hj he).tr ht (fun g hg => hheap g (h.lt hj hg) (fun e => hjk (h.inj j k q p g hj hO hg e)))
  · have key : ∀ {j : Nat} {q : PO} {g : Nat}, j ≠ k → upd O k (some p') j = some q → q.hv.ownBlock = some g → p'.hv.ownBlock = some g → False := by
      intro j q g hjk hj hg hg'
      rw [upd_other O _ hjk] at hj
      rcases hblk with e | ⟨g1, e, hg1⟩
      · rw [e] at hg'; exact hjk (h.inj j k q p g hj hO hg hg')
      · rw [e] at hg'; injection hg' with hg'; have := h.lt hj hg; omega
    by_cases h1 : j = k <;> by_cases h2 : j' = k
    · rw [h1, h2]
    · subst h1
      rw [upd_same] at hj
      injection hj with hj
      subst hj
      exact (key h2 hj' hg' hg).elim
    · subst h2
      rw [upd_same] at hj'
      injection hj' with hj'
      subst hj'
      exact (key h1 hj hg hg').elim
    · rw [upd_other O _ h1] at hj
      rw [upd_other O _ h2] at hj'
      exact h.inj j j' q q' g hj hj' hg hg'
  · by_cases hjk : j = k
    · subst hjk
      rw [upd_same] at hj
      injection hj with hj
      subst hj
      rcases hblk with e | ⟨g1, e, hg1⟩
      · rw [e] at hg; exact h.base j p g hO hg
      · rw [e] at hg; injection hg with hg; have := h.size; left; omega
    · rw [upd_other O _ hjk] at hj
      exact h.base j q g hj hg
  · by_cases hjk : j = k
    · subst hjk
      rw [upd_same] at hj
      injection hj with hj
      subst hj
      rw [hz]
      exact h.sz j p hO
    · rw [upd_other O _ hjk] at hj
      exact h.sz j q hj
  · by_cases hjk : r.1 = k
    · have e1 : upd O k (some p') r.1 = some p' := by rw [hjk, upd_same]
      rw [e1] at hq
      injection hq with hq
      subst hq
      rcases hnr with e | e
      · rw [e]; exact h.refs r hr p (by rw [hjk]; exact hO)
      · exact absurd hjk (e r hr)
    · rw [upd_other O _ hjk] at hq
      exact h.refs r hr q hq
end Go.Lg
