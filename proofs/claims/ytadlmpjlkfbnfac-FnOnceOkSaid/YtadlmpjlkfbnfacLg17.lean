/- Part 17 of a logical reading of translated Go: what a frame holds is said by lists, and each operation is proved against the model. No conditions. -/
import Derived.Test.YtadlmpjlkfbnfacLg16
namespace Go.Lg
open Go.RowKit
set_option linter.unusedVariables false

/-- Nothing but slots and objects that are left; kills and what only the reading knows of are left out. -/
def strip : LC → LC
  | .skip => .skip
  | .ret => .ret
  | .exit id => .exit id
  | .region d ops _ => .region d ops []
  | .seq a b => .seq (strip a) (strip b)
  | .cond c _ x y => .cond c [] (strip x) (strip y)
  | .block id b => .block id (strip b)
  | .loop b => .loop (strip b)
  | .ghost _ c => strip c

def viewC (P : Program) : Code → Option LC
  | .skip => some .skip
  | .ret => some .ret
  | .exit id => some (.exit id)
  | .region _ ops d => (viewOps P ops ops.toList).map fun ls => .region d ls []
  | .seq a b => match viewC P a with
    | some x => match viewC P b with
      | some y => some (.seq x y)
      | none => none
    | none => none
  | .cond c a b => match viewOpd c with
    | some q => match viewC P a with
      | some x => match viewC P b with
        | some y => some (.cond q [] x y)
        | none => none
      | none => none
    | none => none
  | .block id b => (viewC P b).map (.block id ·)
  | .loop b => (viewC P b).map .loop
  | _ => none

/-- Every slot that is written lies within the frame; every region that draws passes a look. -/
def okC (N : Nat) (dc : Array Oper → Bool) : Code → Bool
  | .region _ ops d => ops.toList.all (fun o => Opx o.dst N) && (!d || dc ops)
  | .seq a b | .cond _ a b => okC N dc a && okC N dc b
  | .block _ b | .loop b => okC N dc b
  | _ => true

def Ex.to : Ex → Exit
  | .normal => .normal
  | .exit id => .exit id
  | .ret => .ret

section
variable {P : Program} {Γ : Fns} {c : Cx} {N : Nat}

theorem St.less {S : LS} {a : Act} {w : World} (h : St c N S a w) (f : Nat → Bool) (e : Env) (he : ∀ t, look e t = look S.sl t ∨ look e t = .dead) : St c N { sl := e, ob := S.ob.filter fun p => f p.1 } a w := by
  obtain ⟨O, hm, hs, h1, h2⟩ := h
  obtain ⟨hm', ht⟩ := hm.less f
  refine ⟨_, hm', fun t => ?_, h1, h2⟩
  rcases he t with h | h
  · rw [h]; exact (hs t).tr ht (fun _ h => h.elim)
  · rw [h]; exact .dead _
theorem St.drop {S : LS} {a : Act} {w : World} (h : St c N S a w) (kill : List Nat) : St c N (S.drop kill) a w := by
  unfold LS.drop
  split
  · exact h
  · refine h.less (fun k => Env.mentions k (killE kill S.sl)) _ (fun t => ?_)
    rw [look_kill]
    split
    · exact .inr rfl
    · exact .inl rfl

theorem und_not_bool {w : World} {B : Nat} {ok : Nat → Prop} {O : OM} {v : Value} (h : VR w B ok O .und v) : v = undef := by
  cases h with
  | cr _ _ h => cases h
  | und => rfl

theorem yielded_of {ops : Array Oper} {j t : Nat} {a : Act} (h : slotOf ops j = some t) : (∀ b, a.tmps.getD t undef = .bool b → yielded ops a.tmps j = some b) ∧ (a.tmps.getD t undef = undef → yielded ops a.tmps j = none) := by
  unfold slotOf at h
  unfold yielded
  rw [h]
  simp only [Option.bind_some, Array.getD_eq_getD_getElem?]
  cases hx : a.tmps[t]? with
  | none => simp [undef]
  | some v => cases v <;> simp [undef]

/-- One operation at its place in a region. -/
theorem stepL_ok (hΓ : CallOk P Γ) (hF : ∀ r ∈ c.refs, r.1 % 8 = 7) {ops : Array Oper} {o : Oper} {l : LOp} (hv : viewOp P ops o = some l) (hN : Opx o.dst N = true) {S S1 : LS} {a : Act} {w : World} (hs : St c N S a w) (he : stepL Γ l S = some S1)
    {KK : Act → World → Prop} {Q : Exit → Act → World → Prop} (hK : ∀ a' w', St c N S1 a' w' → KK a' w') :
    if Region.wanted o (yielded ops a.tmps) = true then o.wp P a w KK Q else KK (a.put o.dst undef) w := by
  unfold viewOp at hv
  split at hv
  · rename_i k xs hk
    split at hv
    · rename_i ys hys
      have hskip : ∀ {S1 : LS}, S1 = { S with sl := putD S.sl o.dst .und } → (∀ a' w', St c N S1 a' w' → KK a' w') → KK (a.put o.dst undef) w := by
        rintro S1 rfl hK
        obtain ⟨O, hm, hsr, hdf, hsz⟩ := hs
        refine hK _ _ ⟨O, hm, hsr.put .und (fun x hx => by rw [hx] at hN; rw [hsz]; simpa [Opx] using hN), by rw [put_defers]; exact hdf, by rw [put_size]; exact hsz⟩
      have hgo : ∀ {d : DV} {ob : OB}, eff Γ (fun id => !(id % 8 == 7) && !Env.mentions id S.sl) k (ys.map S.get) S.ob = some (d, ob) → S1 = { sl := putD S.sl o.dst d, ob := ob } → o.wp P a w KK Q := by
        rintro d ob h rfl
        exact step_run hΓ hF hk hys hN hs h hK
      split at hv
      · rename_i hg
        injection hv with hv
        subst hv
        rw [if_pos (by simp [Region.wanted, hg])]
        simp only [stepL] at he
        split at he
        · rename_i d ob heff
          injection he with he
          exact hgo heff he.symm
        · cases he
      · rename_i j want hg
        split at hv
        · rename_i t ht
          injection hv with hv
          subst hv
          obtain ⟨y1, y2⟩ := yielded_of (a := a) ht
          obtain ⟨O, hm, hsr, hdf, hsz⟩ := id hs
          have ht' := hsr t
          simp only [stepL] at he
          split at he
          · rename_i b hb
            rw [hb] at ht'
            have hy := y1 b ht'.bool
            split at he
            · rename_i hbw
              rw [if_pos (by simp [Region.wanted, hg, hy, hbw])]
              split at he
              · rename_i d ob heff
                injection he with he
                exact hgo heff he.symm
              · cases he
            · rename_i hbw
              injection he with he
              rw [if_neg (by simp [Region.wanted, hg, hy, hbw])]
              exact hskip he.symm hK
          · rename_i hb
            rw [hb] at ht'
            have hy := y2 (und_not_bool ht')
            injection he with he
            rw [if_neg (by simp [Region.wanted, hg, hy])]
            exact hskip he.symm hK
          · cases he
        · cases hv
    · cases hv
  · cases hv

theorem runL_ok (hΓ : CallOk P Γ) (hF : ∀ r ∈ c.refs, r.1 % 8 = 7) {ops : Array Oper} {Q : Exit → Act → World → Prop} : ∀ {os : List Oper} {ls : List LOp} {S S1 : LS} {a : Act} {w : World}, viewOps P ops os = some ls → (∀ o ∈ os, Opx o.dst N = true) → St c N S a w →
    runL Γ ls S = some S1 → (∀ a' w', St c N S1 a' w' → Q .normal a' w') → wpList P ops Q os a w
  | [], ls, S, S1, a, w, hv, _, hs, he, hQ => by
    simp only [viewOps, Option.some.injEq] at hv
    subst hv
    simp only [runL, Option.some.injEq] at he
    subst he
    exact wpList_nil (hQ _ _ hs)
  | o :: os, ls, S, S1, a, w, hv, hN, hs, he, hQ => by
    simp only [viewOps] at hv
    split at hv
    · rename_i l hl
      split at hv
      · rename_i ls' hls
        injection hv with hv
        subst hv
        simp only [runL] at he
        split at he
        · rename_i S2 h2
          refine wpList_step (fun K hK => ?_)
          exact stepL_ok hΓ hF hl (hN o (List.mem_cons_self ..)) hs h2 (fun a' w' hs' => hK _ _ (runL_ok hΓ hF hls (fun x hx => hN x (List.mem_cons_of_mem _ hx)) hs' he hQ))
        · cases he
      · cases hv
    · cases hv

theorem allOldL_all : ∀ ds : List DV, allOldL ds = ds.all DV.allOld
  | [] => rfl
  | d :: ds => by simp [allOldL, allOldL_all ds]
theorem allOld_flat {es : List DV} (h : allOldL es = true) : ∀ c ∈ flat es, c.allOld = true := by
  rw [allOldL_all, List.all_eq_true] at h
  intro c hc
  simp only [flat, List.mem_flatMap] at hc
  obtain ⟨e, he, hce⟩ := hc
  have h1 := h e he
  cases e with
  | st cs =>
    simp only [DV.cells] at hce
    simp only [DV.allOld, allOldL_all, List.all_eq_true] at h1
    exact h1 c hce
  | _ => simp only [DV.cells, List.mem_singleton] at hce; subst hce; exact h1
theorem CR.old_ {w : World} {B : Nat} {ok ok' : Nat → Prop} {d : DV} {v : Value} (h : CR w B ok d v) (hd : d.allOld = true) (hok : ∀ b, ok b → b < w.heap.size → b < B → ok' b) : CR w B ok' d v := by
  induction h with
  | i n => exact .i n
  | y n hn => exact .y n hn
  | b x => exact .b x
  | s l => exact .s l
  | sl0 p A cap hm => exact .sl0 p A cap hm
  | sl p es ad n cap sz xs hn h0 hc hm hsz hok1 hlt hold hnew hrow hl hcell hrec ih =>
    simp only [DV.allOld, Bool.and_eq_true, beq_iff_eq] at hd
    exact .sl p es ad n cap sz xs hn h0 hc hm hsz (hok _ hok1 hlt (hold hd.1)) hlt hold hnew hrow hl hcell (fun j c u hc hu => ih j c u hc hu (allOld_flat hd.2 c (List.mem_of_getElem? hc)))
theorem CRs.old_ {w : World} {B : Nat} {ok ok' : Nat → Prop} {cs : List DV} {xs : List Value} (h : CRs w B ok cs xs) (hd : ∀ c ∈ cs, c.allOld = true) (hok : ∀ b, ok b → b < w.heap.size → b < B → ok' b) : CRs w B ok' cs xs :=
  ⟨h.1, fun j c u hc hu => (h.2 j c u hc hu).old_ (hd c (List.mem_of_getElem? hc)) hok⟩
theorem OR.old_ {w : World} {B : Nat} {ok ok' : Nat → Prop} {p : PO} {es : List DV} (h : OR w B ok p es) (hd : allOldL es = true) (hok : ∀ b, ok b → b < w.heap.size → b < B → ok' b) : OR w B ok' p es := by
  obtain ⟨xs, hr, hc⟩ := h.row
  exact ⟨h.len, h.pos, h.wid, xs, hr, hc.old_ (allOld_flat hd) hok⟩
theorem VR.aside_ {w : World} {B : Nat} {ok ok' : Nat → Prop} {O O' : OM} {d : DV} {v : Value} (h : VR w B ok O d v) (hd : d.aside = true) (hok : ∀ b, ok b → b < w.heap.size → b < B → ok' b) (hs : ∀ k, d.mentions k = true → O' k = O k) : VR w B ok' O' d v := by
  cases h with
  | cr d v h => exact .cr _ _ (h.old_ (by cases h <;> first | rfl | exact hd) hok)
  | st cs vs h => exact .st _ _ (h.old_ (by simp only [DV.aside, allOldL_all, List.all_eq_true] at hd; exact hd) hok)
  | nil => exact .nil
  | np => exact .np
  | und => exact .und
  | dead v => exact .dead v
  | adr d ad xs hok hlt hcell h => simp [DV.aside] at hd
  | own k n lo hi p v hO hn h1 h2 hv => exact .own k n lo hi p v (by rw [hs k (by simp [DV.mentions])]; exact hO) hn h1 h2 hv
  | ownS k n lo hi A cap hO => exact .ownS k n lo hi A cap (by rw [hs k (by simp [DV.mentions])]; exact hO)
  | oad k n a o p g hO hn hg => exact .oad k n a o p g (by rw [hs k (by simp [DV.mentions])]; exact hO) hn hg
  | oadS k n a o ad hO => exact .oadS k n a o ad (by rw [hs k (by simp [DV.mentions])]; exact hO)
  | tup ds vs hl hnt h => simp [DV.aside] at hd
theorem asideE_look {t : Nat} : ∀ {e : Env} (_ : asideE t e = true) (k : Nat), k ≠ t → (look e k).aside = true
  | [], _, _, _ => rfl
  | (j, d) :: r, h, k, hk => by
    simp only [asideE, Bool.and_eq_true, Bool.or_eq_true, beq_iff_eq] at h
    simp only [look]
    split
    · rename_i hj
      rcases h.1 with h1 | h1
      · exact absurd (hj.symm.trans h1) hk
      · exact h1
    · exact asideE_look h.2 k hk
theorem asideO_look : ∀ {ob : OB} (_ : asideO ob = true) {k : Nat} {es : List DV}, lookO ob k = some es → allOldL es = true
  | [], _, _, _, he => by cases he
  | (j, l) :: r, h, k, es, he => by
    simp only [asideO, Bool.and_eq_true] at h
    simp only [lookO] at he
    split at he
    · injection he with he; subst he; exact h.1
    · exact asideO_look h.2 he

/-- What is asked of the regions that draw their order. -/
def DrawOk (P : Program) (Γ : Fns) (dc : Array Oper → Bool) : Prop := ∀ (c : Cx) (N id : Nat) (ops : Array Oper) (ls : List LOp) (S S1 : LS) (a : Act) (w : World) (Q : Exit → Act → World → Prop), dc ops = true → (∀ r ∈ c.refs, r.1 % 8 = 7) → viewOps P ops ops.toList = some ls →
  (∀ o ∈ ops.toList, Opx o.dst N = true) → St c N S a w → runR Γ true ls S = some S1 → (∀ a' w', St c N S1 a' w' → Q .normal a' w') → (Code.region id ops true).wp P Q a w

theorem promote_ok (hF : ∀ r ∈ c.refs, r.1 % 8 = 7) {t id : Nat} {e : DV} {es : List DV} {S : LS} {a : Act} {w : World} (h : St c N S a w) (hl : look S.sl t = .sl 1 (e :: es)) (h7 : id % 8 ≠ 7) (hpos : 0 < szId id) (hsz : szId id = e.cells.length)
    (hfr : Env.mentions id S.sl = false) (hE : asideE t S.sl = true) (hA : asideO S.ob = true) (hold : allOldL (e :: es) = true) :
    St c N { sl := put S.sl t (.own id (es.length + 1) 0 (es.length + 1)), ob := putO S.ob id (e :: es) } a w := by
  obtain ⟨O, hm, hs, h1, h2⟩ := h
  have hv := hs t
  rw [hl] at hv
  have hcr := hv.sl'
  generalize hve : a.tmps.getD t undef = v at hcr
  cases hcr with
  | sl _ _ ad n cap sz xs hn h0 hc hmx hwid hok hlt hold0 hnew hrow hlen hcell hrec =>
    obtain ⟨ty, hrw⟩ := hrow rfl
    have hge := hnew (.inl rfl)
    have hse : e.cells.length = sz := hwid e (List.mem_cons_self ..)
    have had : ∃ g, ad = ⟨g, 0, none⟩ := by
      rcases hrw.2 with ⟨h, _⟩ | ⟨g, _, _, h, _⟩
      · cases h
      · injection h with h _ _; injection h with h; exact ⟨g, h⟩
    obtain ⟨g, rfl⟩ := had
    have hg : (PO.mk (.slice (some ⟨g, 0, none⟩) n cap) n ty sz).hv.ownBlock = some g := rfl
    simp only at hge hlt hok
    have hkeep : ∀ b, okb c.ok0 c.B O b → b < w.heap.size → b < c.B → okb c.ok0 c.B (upd O id (some ⟨.slice (some ⟨g, 0, none⟩) n cap, n, ty, sz⟩)) b := by
      intro b hb _ hbB
      refine ⟨hb.1, fun k p hk => ?_⟩
      by_cases hki : k = id
      · subst hki; rw [upd_same] at hk; injection hk with hk; subst hk
        intro hq; rw [hg] at hq; injection hq with hq; omega
      · rw [upd_other O _ hki] at hk; exact hb.2 k p hk
    refine ⟨upd O id (some ⟨.slice (some ⟨g, 0, none⟩) n cap, n, ty, sz⟩), ⟨hm.os, hm.tape, hm.output, hm.size, hm.frame, fun k => ?_, fun k p l hk hkl => ?_, fun k k' p p' b hk hk' hb hb' => ?_, fun k p b hk hb => ?_, fun k p hk => ?_, fun r hr p hp => ?_⟩, fun t' => ?_, h1, h2⟩
    · rw [lookO_put]
      by_cases hki : k = id
      · simp [hki, upd]
      · simp only [upd, hki, if_false]; exact hm.dom k
    · rw [lookO_put] at hkl
      by_cases hki : k = id
      · subst hki
        rw [upd_same] at hk
        injection hk with hk
        simp only [if_true] at hkl
        injection hkl with hkl
        subst hk; subst hkl
        exact ⟨hn.symm, by show 0 < sz; omega, hwid, xs, hrw, CRs.old_ ⟨hlen, hrec⟩ (allOld_flat hold) hkeep⟩
      · rw [upd_other O _ hki] at hk
        rw [if_neg hki] at hkl
        exact (hm.obj k p l hk hkl).old_ (asideO_look hA hkl) hkeep
    · by_cases e1 : k = id <;> by_cases e2 : k' = id
      · rw [e1, e2]
      · subst e1
        rw [upd_same] at hk; injection hk with hk; subst hk
        rw [upd_other O _ e2] at hk'
        rw [hg] at hb; injection hb with hb; subst hb
        exact absurd hb' (hok.2 k' p' hk')
      · subst e2
        rw [upd_same] at hk'; injection hk' with hk'; subst hk'
        rw [upd_other O _ e1] at hk
        rw [hg] at hb'; injection hb' with hb'; subst hb'
        exact absurd hb (hok.2 k p hk)
      · rw [upd_other O _ e1] at hk
        rw [upd_other O _ e2] at hk'
        exact hm.inj k k' p p' b hk hk' hb hb'
    · by_cases hki : k = id
      · subst hki
        rw [upd_same] at hk; injection hk with hk; subst hk
        rw [hg] at hb; injection hb with hb; subst hb
        exact .inl hge
      · rw [upd_other O _ hki] at hk; exact hm.base k p b hk hb
    · by_cases hki : k = id
      · subst hki
        rw [upd_same] at hk; injection hk with hk; subst hk
        show sz = szId k
        omega
      · rw [upd_other O _ hki] at hk; exact hm.sz k p hk
    · have hne : r.1 ≠ id := fun he => h7 (by rw [← he]; exact hF r hr)
      rw [upd_other O _ hne] at hp; exact hm.refs r hr p hp
    · show VR w c.B (okb c.ok0 c.B _) _ (look (put S.sl t (.own id (es.length + 1) 0 (es.length + 1))) t') (a.tmps.getD t' undef)
      rw [look_put]
      split
      · rename_i htt
        subst htt
        rw [hve]
        have hn' : es.length + 1 = n := by rw [← hn]; rfl
        rw [hn']
        exact .own id n 0 n ⟨.slice (some ⟨g, 0, none⟩) n cap, n, ty, sz⟩ _ (upd_same _ _ _) rfl (Nat.zero_le _) (Nat.le_refl _) ⟨some ⟨g, 0, none⟩, cap, rfl, hc, hmx, fun _ => ⟨g, rfl, by simp⟩, fun _ _ => rfl⟩
      · rename_i htt
        exact (hs t').aside_ (asideE_look hE t' htt) hkeep (fun k hk => upd_other _ _ (fun hki => by subst hki; rw [mentions_of hfr t'] at hk; cases hk))

theorem rename_ok (hF : ∀ r ∈ c.refs, r.1 % 8 = 7) {t id k n lo hi : Nat} {es : List DV} {S : LS} {a : Act} {w : World} (h : St c N S a w) (hl : look S.sl t = .own k n lo hi) (hki : k ≠ id) (hk : lookO S.ob k = some es) (h7 : k % 8 ≠ 7) (hi7 : id % 8 ≠ 7)
    (hsz : szId k = szId id) (hn : es.length = n) (hfr : Env.mentions id S.sl = false) : St c N { sl := put S.sl t (.own id n lo hi), ob := putO (dropO S.ob k) id es } a w := by
  obtain ⟨O, hm, hs, h1, h2⟩ := h
  have hv := hs t
  rw [hl] at hv
  obtain ⟨p, hO, hp, hlo, hhi, hvw, hor⟩ := hv.own_cur hm hk hn
  have e1 : ∀ j q, upd (upd O k none) id (some p) j = some q → (j = id ∧ q = p) ∨ (j ≠ id ∧ j ≠ k ∧ O j = some q) := by
    intro j q hj
    by_cases hji : j = id
    · subst hji; rw [upd_same] at hj; injection hj with hj; exact .inl ⟨rfl, hj.symm⟩
    · rw [upd_other _ _ hji] at hj
      by_cases hjk : j = k
      · subst hjk; rw [upd_same] at hj; cases hj
      · rw [upd_other _ _ hjk] at hj; exact .inr ⟨hji, hjk, hj⟩
  have hok : ∀ b, okb c.ok0 c.B O b → okb c.ok0 c.B (upd (upd O k none) id (some p)) b := by
    intro b hb
    refine ⟨hb.1, fun j q hj => ?_⟩
    rcases e1 j q hj with ⟨_, rfl⟩ | ⟨_, _, h⟩
    · exact hb.2 k _ hO
    · exact hb.2 j q h
  have ht : Tr c.ok0 c.B (fun j => j = id) w O w (upd (upd O k none) id (some p)) := by
    refine ⟨Nat.le_refl _, fun _ _ _ => rfl, fun b hb _ => hok b hb, fun j q hN hj => .inl ?_⟩
    rcases e1 j q hj with ⟨h, _⟩ | ⟨_, _, h⟩
    · exact absurd h hN
    · exact h
  refine ⟨upd (upd O k none) id (some p), ⟨hm.os, hm.tape, hm.output, hm.size, hm.frame, fun j => ?_, fun j q l hj hjl => ?_, fun j j' q q' b hj hj' hb hb' => ?_, fun j q b hj hb => ?_, fun j q hj => ?_, fun r hr q hq => ?_⟩, fun t' => ?_, h1, h2⟩
  · rw [lookO_put, lookO_drop]
    by_cases hji : j = id
    · simp [hji, upd]
    · by_cases hjk : j = k
      · subst hjk; simp [hji, upd]
      · simp only [upd, hji, hjk, if_false]; exact hm.dom j
  · rw [lookO_put, lookO_drop] at hjl
    rcases e1 j q hj with ⟨rfl, rfl⟩ | ⟨hji, hjk, h⟩
    · simp only [if_true] at hjl
      injection hjl with hjl
      subst hjl
      exact hor.tr ht (fun _ _ => rfl)
    · rw [if_neg hji, if_neg hjk] at hjl
      exact (hm.obj j q l h hjl).tr ht (fun _ _ => rfl)
  · rcases e1 j q hj with ⟨rfl, rfl⟩ | ⟨hji, hjk, h⟩ <;> rcases e1 j' q' hj' with ⟨rfl, rfl⟩ | ⟨hji', hjk', h'⟩
    · rfl
    · exact absurd (hm.inj k j' _ _ b hO h' hb hb').symm hjk'
    · exact absurd (hm.inj j k _ _ b h hO hb hb') hjk
    · exact hm.inj j j' q q' b h h' hb hb'
  · rcases e1 j q hj with ⟨rfl, rfl⟩ | ⟨hji, hjk, h⟩
    · rcases hm.base k _ b hO hb with h | ⟨h, _⟩
      · exact .inl h
      · exact absurd h h7
    · exact hm.base j q b h hb
  · rcases e1 j q hj with ⟨rfl, rfl⟩ | ⟨hji, hjk, h⟩
    · rw [hm.sz k _ hO, hsz]
    · exact hm.sz j q h
  · rcases e1 r.1 q hq with ⟨h, _⟩ | ⟨hji, hjk, h⟩
    · exact absurd (hF r hr) (by rw [h]; exact hi7)
    · exact hm.refs r hr q h
  · show VR w c.B (okb c.ok0 c.B _) _ (look (put S.sl t (.own id n lo hi)) t') (a.tmps.getD t' undef)
    rw [look_put]
    split
    · rename_i htt
      subst htt
      exact .own id n lo hi p _ (upd_same _ _ _) hp hlo hhi hvw
    · exact (hs t').tr ht (fun j hj => by rw [hj]; exact mentions_of hfr t')

theorem ghost_ok {g : Ghost} {S S1 : LS} {a : Act} {w : World} (hF : ∀ r ∈ c.refs, r.1 % 8 = 7) (h : St c N S a w) (he : ghostL g S = some S1) : St c N S1 a w := by
  cases g with
  | freeze t =>
    simp only [ghostL] at he
    split at he
    · rename_i k n lo hi hl
      split at he
      · rename_i es hes
        split at he
        · cases he
        · rename_i hk7
          injection he with he
          subst he
          obtain ⟨O, hm, hs, h1, h2⟩ := h
          have hv := hs t
          rw [hl] at hv
          have hset : settle S.ob (.own k n lo hi) = some (.sl (wholeP n lo hi) es, dropO S.ob k) := by simp only [settle, hes, hk7]; rfl
          obtain ⟨O', hm', ht, _, hcr, _, _⟩ := settle_ok hm hv hset
          refine ⟨O', hm', fun t' => ?_, h1, h2⟩
          show VR w c.B (okb c.ok0 c.B O') O' (look (put S.sl t (.sl (wholeP n lo hi) es)) t') (a.tmps.getD t' undef)
          rw [look_put]
          split
          · rename_i htt
            subst htt
            rcases hcr with ⟨cs, hcs⟩ | hcr
            · cases hcs
            · exact .cr _ _ hcr
          · exact (hs t').tr ht (fun _ h => h.elim)
      · cases he
    · cases he
  | rename t id =>
    simp only [ghostL] at he
    split at he
    · rename_i k n lo hi hl
      split at he
      · injection he with he; subst he; exact h
      · rename_i hki
        split at he
        · rename_i es hk
          split at he
          · rename_i hc
            injection he with he
            subst he
            exact rename_ok hF h hl hki hk hc.1 hc.2.1 hc.2.2.1 hc.2.2.2.1 hc.2.2.2.2
          · cases he
        · cases he
    · injection he with he; subst he; exact h
  | promote t id =>
    simp only [ghostL] at he
    split at he
    · rename_i e es hl
      split at he
      · rename_i hc
        injection he with he
        subst he
        obtain ⟨h7, hpos, hsz, hfr, hE, hO', hold⟩ := hc
        exact promote_ok hF h hl h7 hpos hsz hfr hE hO' hold
      · cases he
    · cases he

theorem exec_ok (hΓ : CallOk P Γ) {dc : Array Oper → Bool} (hD : DrawOk P Γ dc) (hF : ∀ r ∈ c.refs, r.1 % 8 = 7) {n : Nat} : ∀ (lc : LC) (code : Code) {S S1 : LS} {x : Ex} {a : Act} {w : World} {Q : Exit → Act → World → Prop}, viewC P code = some (strip lc) → okC N dc code = true →
    St c N S a w → exec Γ n lc S = some (x, S1) → (∀ a' w', St c N S1 a' w' → Q x.to a' w') → code.wp P Q a w
  | .ghost g lc, code, S, S1, x, a, w, Q, hv, hok, hs, he, hQ => by
    simp only [exec] at he
    split at he
    · rename_i S2 h2
      exact exec_ok hΓ hD hF lc code hv hok (ghost_ok hF hs h2) he hQ
    · cases he
  | .skip, code, S, S1, x, a, w, Q, hv, hok, hs, he, hQ => by
    simp only [exec, Option.some.injEq, Prod.mk.injEq] at he
    obtain ⟨rfl, rfl⟩ := he
    cases code <;> simp only [viewC, strip] at hv <;> try (repeat' (first | (simp at hv; done) | split at hv))
    exact wp_skip (hQ _ _ hs)
  | .ret, code, S, S1, x, a, w, Q, hv, hok, hs, he, hQ => by
    simp only [exec, Option.some.injEq, Prod.mk.injEq] at he
    obtain ⟨rfl, rfl⟩ := he
    cases code <;> simp only [viewC, strip] at hv <;> try (repeat' (first | (simp at hv; done) | split at hv))
    exact wp_ret (hQ _ _ hs)
  | .exit id, code, S, S1, x, a, w, Q, hv, hok, hs, he, hQ => by
    simp only [exec, Option.some.injEq, Prod.mk.injEq] at he
    obtain ⟨rfl, rfl⟩ := he
    cases code <;> simp only [viewC, strip] at hv <;> try (repeat' (first | (simp at hv; done) | split at hv))
    rename_i id'
    simp only [Option.some.injEq, LC.exit.injEq] at hv
    subst hv
    exact wp_exit (hQ _ _ hs)
  | .region d ls kill, code, S, S1, x, a, w, Q, hv, hok, hs, he, hQ => by
    simp only [exec] at he
    cases hr : regionL Γ d ls kill S with
    | none => rw [hr] at he; simp at he
    | some S2 =>
      rw [hr] at he
      simp only [Option.map_some, Option.some.injEq, Prod.mk.injEq] at he
      obtain ⟨rfl, rfl⟩ := he
      unfold regionL at hr
      split at hr
      · rename_i S3 h3
        injection hr with hr
        subst hr
        cases code <;> simp only [viewC, strip] at hv <;> try (repeat' (first | (simp at hv; done) | split at hv))
        rename_i id ops draw
        simp only [Option.map_eq_some_iff, LC.region.injEq] at hv
        obtain ⟨ls', hls, rfl, rfl, _⟩ := hv
        simp only [okC, Bool.and_eq_true, List.all_eq_true, Bool.or_eq_true, Bool.not_eq_true'] at hok
        cases draw with
        | false => exact wp_region_list (runL_ok hΓ hF hls hok.1 hs h3 (fun a' w' h => hQ _ _ (h.drop kill)))
        | true => exact hD c N id ops ls' S S3 a w Q (by rcases hok.2 with h | h; cases h; exact h) hF hls hok.1 hs h3 (fun a' w' h => hQ _ _ (h.drop kill))
      · cases hr
  | .seq l1 l2, code, S, S1, x, a, w, Q, hv, hok, hs, he, hQ => by
    cases code <;> simp only [viewC, strip] at hv <;> try (repeat' (first | (simp at hv; done) | split at hv))
    rename_i c1 c2 _ x1 hx1 _ x2 hx2
    simp only [Option.some.injEq, LC.seq.injEq] at hv
    obtain ⟨rfl, rfl⟩ := hv
    simp only [okC, Bool.and_eq_true] at hok
    simp only [exec] at he
    cases h1 : exec Γ n l1 S with
    | none => rw [h1] at he; cases he
    | some p =>
      obtain ⟨x', S2⟩ := p
      rw [h1] at he
      refine wp_seq (exec_ok hΓ hD hF l1 c1 hx1 hok.1 hs h1 (fun a' w' h => ?_))
      cases x' with
      | normal => exact exec_ok hΓ hD hF l2 c2 hx2 hok.2 h he hQ
      | exit id =>
        simp only [Option.some.injEq, Prod.mk.injEq] at he
        obtain ⟨rfl, rfl⟩ := he
        exact hQ _ _ h
      | ret =>
        simp only [Option.some.injEq, Prod.mk.injEq] at he
        obtain ⟨rfl, rfl⟩ := he
        exact hQ _ _ h
  | .cond q kill l1 l2, code, S, S1, x, a, w, Q, hv, hok, hs, he, hQ => by
    cases code <;> simp only [viewC, strip] at hv <;> try (repeat' (first | (simp at hv; done) | split at hv))
    rename_i cc c1 c2 _ q' hq _ x1 hx1 _ x2 hx2
    simp only [Option.some.injEq, LC.cond.injEq] at hv
    obtain ⟨rfl, _, rfl, rfl⟩ := hv
    simp only [okC, Bool.and_eq_true] at hok
    simp only [exec] at he
    obtain ⟨O, hm, hsr, _, _⟩ := id hs
    have hcv := viewOpd_ok hsr hq
    split at he
    · rename_i hb
      rw [hb] at hcv
      exact wp_cond_true hcv.bool (exec_ok hΓ hD hF l1 c1 hx1 hok.1 (hs.drop kill) he hQ)
    · rename_i hb
      rw [hb] at hcv
      exact wp_cond_false hcv.bool (exec_ok hΓ hD hF l2 c2 hx2 hok.2 (hs.drop kill) he hQ)
    · cases he
  | .block id l, code, S, S1, x, a, w, Q, hv, hok, hs, he, hQ => by
    cases code <;> simp only [viewC, strip] at hv <;> try (repeat' (first | (simp at hv; done) | split at hv))
    rename_i id' c1
    simp only [Option.map_eq_some_iff, LC.block.injEq] at hv
    obtain ⟨x1, hx1, rfl, rfl⟩ := hv
    simp only [okC] at hok
    simp only [exec] at he
    cases h1 : exec Γ n l S with
    | none => rw [h1] at he; cases he
    | some p =>
      obtain ⟨x', S2⟩ := p
      rw [h1] at he
      refine wp_block (exec_ok hΓ hD hF l c1 hx1 hok hs h1 (fun a' w' h => ?_))
      cases x' with
      | normal =>
        simp only [Option.some.injEq, Prod.mk.injEq] at he
        obtain ⟨rfl, rfl⟩ := he
        exact hQ _ _ h
      | exit j =>
        simp only at he
        split at he
        · rename_i hj
          simp only [Option.some.injEq, Prod.mk.injEq] at he
          obtain ⟨rfl, rfl⟩ := he
          show Exit.inBlock id' Q (.exit j) a' w'
          simp only [Exit.inBlock, hj, if_true]
          exact hQ _ _ h
        · rename_i hj
          simp only [Option.some.injEq, Prod.mk.injEq] at he
          obtain ⟨rfl, rfl⟩ := he
          show Exit.inBlock id' Q (.exit j) a' w'
          simp only [Exit.inBlock, hj, if_false]
          exact hQ _ _ h
      | ret =>
        simp only [Option.some.injEq, Prod.mk.injEq] at he
        obtain ⟨rfl, rfl⟩ := he
        exact hQ _ _ h
  | .loop l, code, S, S1, x, a, w, Q, hv, hok, hs, he, hQ => by
    cases code <;> simp only [viewC, strip] at hv <;> try (repeat' (first | (simp at hv; done) | split at hv))
    rename_i c1
    simp only [Option.map_eq_some_iff, LC.loop.injEq] at hv
    obtain ⟨x1, hx1, rfl⟩ := hv
    simp only [okC] at hok
    simp only [exec] at he
    have key : ∀ (m : Nat) {S : LS} {a : Act} {w : World}, St c N S a w → iter m (exec Γ n l) S = some (x, S1) → Code.rounds P c1 Q m a w := by
      intro m
      induction m with
      | zero => intro S a w _ h; cases h
      | succ m ih =>
        intro S a w hs h
        rw [rounds_succ]
        simp only [iter] at h
        cases h1 : exec Γ n l S with
        | none => rw [h1] at h; cases h
        | some p =>
          obtain ⟨x', S2⟩ := p
          rw [h1] at h
          refine exec_ok hΓ hD hF l c1 hx1 hok hs h1 (fun a' w' h' => ?_)
          cases x' with
          | normal => exact ih h' h
          | exit id =>
            simp only [Option.some.injEq, Prod.mk.injEq] at h
            obtain ⟨rfl, rfl⟩ := h
            exact hQ _ _ h'
          | ret =>
            simp only [Option.some.injEq, Prod.mk.injEq] at h
            obtain ⟨rfl, rfl⟩ := h
            exact hQ _ _ h'
    exact wp_loop_rounds n (key n hs he)
end
end Go.Lg
