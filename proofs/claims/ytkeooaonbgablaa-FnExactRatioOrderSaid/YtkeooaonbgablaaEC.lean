/- What the functions answer, as equations: EC. No conditions. -/
import Derived.Test.YtkeooaonbgablaaEB
import Derived.Test.YtkeooaonbgablaaEA
set_option linter.unusedSectionVars false
set_option linter.unusedVariables false
set_option linter.unusedSimpArgs false
namespace Zz
open Go.Lg Md
/-! ### duals, and what is not so -/
theorem fold_flt {P : Type} (mk : T → List P → P) : ∀ (x : Tm) (st : List P), (flt x).foldl (stepG mk) st = st ++ [valG mk x]
  | .tst a, st => by simp [flt, valG, stepG_0]
  | .neg x, st => by
    simp only [flt, List.foldl_append, fold_flt mk x, List.foldl_cons, List.foldl_nil]
    rw [stepG_1]; rfl
  | .and x y, st => by
    simp only [flt, List.foldl_append, fold_flt mk x, fold_flt mk y, List.foldl_cons, List.foldl_nil, List.append_assoc, List.cons_append, List.nil_append]
    rw [stepG_2 _ _ _ _ _ _ (.inl rfl)]; rfl
  | .or x y, st => by
    simp only [flt, List.foldl_append, fold_flt mk x, fold_flt mk y, List.foldl_cons, List.foldl_nil, List.append_assoc, List.cons_append, List.nil_append]
    rw [stepG_2 _ _ _ _ _ _ (.inr rfl)]; rfl
theorem tv_flt {m : Int} (hm : m ≤ 5) {x : Tm} (hb : tb m x) {s : Nat} (hs : s < 32) : tv (flt x) s = ev s x := by
  unfold tv tsW
  rw [fold_flt]
  exact val_bit hm hb hs
def dTm : Tm → Tm
  | .tst a => .tst a
  | .neg x => .neg (dTm x)
  | .and x y => .or (dTm x) (dTm y)
  | .or x y => .and (dTm x) (dTm y)
theorem flt_dual : ∀ x : Tm, flt (dTm x) = (flt x).map dT
  | .tst a => by simp [dTm, flt, dT]
  | .neg x => by simp [dTm, flt, dT, flt_dual x]
  | .and x y => by simp [dTm, flt, dT, flt_dual x, flt_dual y]
  | .or x y => by simp [dTm, flt, dT, flt_dual x, flt_dual y]
theorem tb_dual {m : Int} : ∀ {x : Tm}, tb m x → tb m (dTm x)
  | .tst a, h => h
  | .neg x, h => tb_dual (x := x) h
  | .and x y, h => ⟨tb_dual (x := x) h.1, tb_dual (x := y) h.2⟩
  | .or x y, h => ⟨tb_dual (x := x) h.1, tb_dual (x := y) h.2⟩
theorem ev_dual {m : Int} {s s' : Nat} (h : ∀ a : Nat, (a : Int) < m → s'.testBit a = !s.testBit a) : ∀ {x : Tm}, tb m x → ev s' (dTm x) = !ev s x
  | .tst a, hb => h a hb
  | .neg x, hb => by simp only [dTm, ev, ev_dual h (x := x) hb]
  | .and x y, hb => by simp only [dTm, ev, ev_dual h (x := x) hb.1, ev_dual h (x := y) hb.2, Bool.not_and]
  | .or x y, hb => by simp only [dTm, ev, ev_dual h (x := x) hb.1, ev_dual h (x := y) hb.2, Bool.not_or]
/-- the opposite state -/
def opp (m : Int) (s : Nat) : Nat := 2 ^ m.toNat - 1 - s
theorem opp_bit {m : Int} {s : Nat} (hs : s < 2 ^ m.toNat) {a : Nat} (ha : a < m.toNat) : (opp m s).testBit a = !s.testBit a := by
  unfold opp
  rw [show 2 ^ m.toNat - 1 - s = 2 ^ m.toNat - (s + 1) by omega, Nat.testBit_two_pow_sub_succ hs]
  simp [ha]
theorem opp_lt {m : Int} {s : Nat} (hs : s < 2 ^ m.toNat) : opp m s < 2 ^ m.toNat := by unfold opp; omega
theorem opp_opp {m : Int} {s : Nat} (hs : s < 2 ^ m.toNat) : opp m (opp m s) = s := by unfold opp; omega
theorem tv_dual {m : Int} {ts : List T} (h : tmOk m ts = true) {s : Nat} (hs : s < 2 ^ m.toNat) : tv (ts.map dT) (opp m s) = !tv ts s := by
  obtain ⟨h1, _, _⟩ := tmOk_iff.1 h
  obtain ⟨p1, p2, p3⟩ := pow5 h1.1 h1.2
  obtain ⟨x, hb, hf, _, htv⟩ := tv_tree h
  have ho := opp_lt hs
  rw [htv s (by omega), ← hf, ← flt_dual, tv_flt h1.2 (tb_dual hb) (by omega)]
  exact ev_dual (fun a ha => opp_bit hs (by omega)) hb
theorem tv_not {m : Int} {ts : List T} (h : tmOk m ts = true) {s : Nat} (hs : s < 32) : tv (ts ++ [(1, 0)]) s = !tv ts s := by
  obtain ⟨h1, _, _⟩ := tmOk_iff.1 h
  obtain ⟨x, hb, hf, _, htv⟩ := tv_tree h
  have e : ts ++ [(1, 0)] = flt (.neg x) := by rw [← hf]; rfl
  rw [htv s hs, e, tv_flt (m := m) h1.2 (x := .neg x) hb hs]
  rfl
theorem st_opp {m s : Int} (h : stOk m s = true) : stOk m (2 ^ m.toNat - 1 - s) = true ∧ (2 ^ m.toNat - 1 - s).toNat = opp m s.toNat ∧ s.toNat < 2 ^ m.toNat := by
  obtain ⟨h1, h2, h3⟩ := stOk_iff.1 h
  obtain ⟨p1, p2, p3⟩ := pow5 h1.1 h1.2
  refine ⟨stOk_iff.2 ⟨h1, by omega, by omega⟩, ?_, by omega⟩
  unfold opp
  omega
end Zz

namespace Zz
open Go.Lg Md
/-! ### proofs -/
theorem agB_iff : ∀ {ks : List Int} {s : Nat}, agB ks s = true ↔ ∀ k v, ks[k]? = some v → v = -1 ∨ v = bI (s.testBit k)
  | [], s => by simp [agB, ag]
  | a :: r, s => by
    rw [agB_cons]
    simp only [Bool.and_eq_true, Bool.or_eq_true, beq_iff_eq]
    rw [agB_iff (ks := r)]
    constructor
    · rintro ⟨h1, h2⟩ k v hv
      cases k with
      | zero => simp at hv; subst hv; exact h1
      | succ k => simp at hv; have := h2 k v hv; rw [Nat.testBit_succ]; exact this
    · intro h
      refine ⟨h 0 a rfl, fun k v hv => ?_⟩
      have := h (k + 1) v (by simpa using hv)
      rw [Nat.testBit_succ] at this
      exact this
theorem bI_inj {a b : Bool} : bI a = bI b ↔ a = b := by cases a <;> cases b <;> simp [bI]
theorem ag_told {m st so s : Nat} : agB (told m st so) s = true ↔ ∀ k, k < m → so.testBit k = true → s.testBit k = st.testBit k := by
  rw [agB_iff]
  have hl := told_len m st so
  constructor
  · intro h k hk hs
    have := h k (bI (st.testBit k)) (by simp [told, hk, hs])
    rcases this with e | e
    · cases hb : st.testBit k <;> rw [hb] at e <;> simp [bI] at e
    · exact (bI_inj.1 e).symm
  · intro h k v hv
    have hk : k < m := by
      have := (List.getElem?_eq_some_iff.1 hv).1
      omega
    simp [told, hk] at hv
    cases hs : so.testBit k with
    | false => left; rw [hs] at hv; simpa using hv.symm
    | true => right; rw [hs] at hv; rw [h k hk hs]; simpa using hv.symm
theorem prf_iff {m : Int} {ts : List T} {st so : Nat} (hs : st < 2 ^ m.toNat) : prf m ts st so = true ↔ ∀ s, s < 2 ^ m.toNat → (∀ k, k < m.toNat → so.testBit k = true → s.testBit k = st.testBit k) → tv ts s = tv ts st := by
  have self : agB (told m.toNat st so) st = true := ag_told.2 fun _ _ _ => rfl
  have hne : ∃ s, s < 2 ^ m.toNat ∧ agB (told m.toNat st so) s = true := ⟨st, hs, self⟩
  unfold prf foT
  constructor
  · intro h s hs' hg
    have hne' : ∀ b, fo (tv ts) (agB (told m.toNat st so)) (2 ^ m.toNat) = bI b → tv ts s = tv ts st := fun b e => by
      rw [fo_b hne] at e
      rw [e s hs' (ag_told.2 hg), e st hs self]
    rcases fo_or (tv ts) (agB (told m.toNat st so)) (2 ^ m.toNat) with e | e | e
    · exact hne' true e
    · exact hne' false e
    · rw [e] at h; cases h
  · intro h
    have e := (fo_b (f := tv ts) hne (tv ts st)).2 fun s hs' hg => h s hs' (ag_told.1 hg)
    rw [e]
    cases tv ts st <;> rfl
theorem prf_mono {m : Int} {ts : List T} {st so so' : Nat} (hs : st < 2 ^ m.toNat) (h : ∀ k, k < m.toNat → so.testBit k = true → so'.testBit k = true) (hp : prf m ts st so = true) : prf m ts st so' = true := by
  rw [prf_iff hs] at hp ⊢
  exact fun s hs' hg => hp s hs' fun k hk hb => hg k hk (h k hk hb)
theorem eq_of_low {m a b : Nat} (ha : a < 2 ^ m) (hb : b < 2 ^ m) (h : ∀ k, k < m → a.testBit k = b.testBit k) : a = b := by
  apply Nat.eq_of_testBit_eq
  intro k
  by_cases hk : k < m
  · exact h k hk
  · rw [Nat.testBit_lt_two_pow (Nat.lt_of_lt_of_le ha (Nat.pow_le_pow_right (by omega) (by omega))), Nat.testBit_lt_two_pow (Nat.lt_of_lt_of_le hb (Nat.pow_le_pow_right (by omega) (by omega)))]
theorem prf_all {m : Int} {ts : List T} {st so : Nat} (hs : st < 2 ^ m.toNat) (h : ∀ k, k < m.toNat → so.testBit k = true) : prf m ts st so = true := by
  rw [prf_iff hs]
  intro s hs' hg
  rw [eq_of_low hs' hs fun k hk => hg k hk (h k hk)]
theorem prf_dual {m : Int} {ts : List T} (h : tmOk m ts = true) {st so : Nat} (hs : st < 2 ^ m.toNat) : prf m (ts.map dT) (opp m st) so = prf m ts st so := by
  rw [Bool.eq_iff_iff, prf_iff (opp_lt hs), prf_iff hs]
  constructor
  · intro q s hs' hg
    have := q (opp m s) (opp_lt hs') fun k hk hb => by rw [opp_bit hs' hk, opp_bit hs hk, hg k hk hb]
    rw [tv_dual h hs', tv_dual h hs] at this
    simpa using this
  · intro q s hs' hg
    have := q (opp m s) (opp_lt hs') fun k hk hb => by rw [opp_bit hs' hk, hg k hk hb, opp_bit hs hk]; simp
    rw [tv_dual h hs, ← opp_opp hs', tv_dual h (opp_lt hs'), this]
end Zz

namespace Zz
open Go.Lg Md
/-! ### what is forced, further -/
theorem unk_zero : ∀ {ks : List Int}, unk ks = 0 → ∀ (k : Nat) (v : Int), ks[k]? = some v → v ≠ -1
  | [], _, k, v, h => by simp at h
  | a :: r, h0, k, v, h => by
    have ub := unk_bound r
    simp only [unk] at h0
    by_cases ha : a = -1
    · rw [if_pos ha] at h0; omega
    · rw [if_neg ha] at h0
      cases k with
      | zero => simp at h; omega
      | succ k => exact unk_zero (ks := r) (by omega) k v (by simpa using h)
theorem at_k {ks : List Int} {i : Nat} (hi : i < ks.length) : ∃ k, ks[i]? = some k ∧ k ∈ ks ∧ atI (ks.map .i) i = some (.i k) ∧ ks.take (i + 1) = ks.take i ++ [k] := by
  refine ⟨ks[i], List.getElem?_eq_getElem hi, List.getElem_mem hi, ?_, List.take_succ_eq_append_getElem hi⟩
  simp [atI, hi]
theorem unk_app : ∀ a b : List Int, unk (a ++ b) = unk a + unk b
  | [], b => by simp [unk]
  | k :: r, b => by simp only [List.cons_append, unk, unk_app r b]; omega
theorem unk_take {ks : List Int} {i : Nat} (hi : i < ks.length) {q : Int} (h : ks[i]? = some q) : unk (ks.take (i + 1)) = unk (ks.take i) + (if q = -1 then 1 else 0) := by
  rw [List.take_add_one, unk_app, h]
  simp [unk]
theorem unk_pos {m : Int} {ts : List T} {ks : List Int} (h : ksOk m ks = true) (hf : foT m ts ks = -1) : 0 < unk ks := by
  obtain ⟨h1, h2, h3⟩ := ksOk_iff.1 h
  obtain ⟨⟨s1, a1, a2, a3⟩, ⟨s2, b1, b2, b3⟩⟩ := (fo_n (ks_some h)).1 hf
  have ub := unk_bound ks
  apply Classical.byContradiction
  intro hn
  have hz : unk ks = 0 := by omega
  have : s1 = s2 := eq_of_low a1 b1 fun k hk => by
    have hkl : k < ks.length := by omega
    obtain ⟨v, hv⟩ : ∃ v, ks[k]? = some v := ⟨ks[k], List.getElem?_eq_getElem hkl⟩
    have n1 := unk_zero hz k v hv
    rcases agB_iff.1 a2 k v hv with e | e
    · exact absurd e n1
    · rcases agB_iff.1 b2 k v hv with e' | e'
      · exact absurd e' n1
      · exact bI_inj.1 (e.symm.trans e')
  subst this
  rw [a3] at b3; cases b3
theorem ks_side {m : Int} {r : List Int} (h : ksOk m (-1 :: r) = true) (c : Bool) : ksOk m (bI c :: r) = true := by
  obtain ⟨h1, h2, h3⟩ := ksOk_iff.1 h
  refine ksOk_iff.2 ⟨h1, by simpa using h2, ?_⟩
  simp only [List.all_cons, Bool.and_eq_true] at h3 ⊢
  exact ⟨by cases c <;> rfl, h3.2⟩
theorem fo_side {m : Int} {ts : List T} {r : List Int} (h : ksOk m (-1 :: r) = true) {b : Bool} (hf : foT m ts (-1 :: r) = bI b) (c : Bool) : foT m ts (bI c :: r) = bI b := by
  unfold foT at hf ⊢
  rw [fo_b (ks_some h)] at hf
  rw [fo_b (ks_some (ks_side h c))]
  intro s hs hg
  refine hf s hs ?_
  rw [agB_cons] at hg ⊢
  simp only [Bool.and_eq_true] at hg ⊢
  exact ⟨by simp, hg.2⟩
theorem fo_at {m : Int} {ts : List T} {ks : List Int} (h : ksOk m ks = true) {b : Bool} (hf : foT m ts ks = bI b) {s : Nat} (hs : s < 2 ^ m.toNat) (hg : agB ks s = true) : tv ts s = b := by
  unfold foT at hf
  rw [fo_b (ks_some h)] at hf
  exact hf s hs hg
end Zz

namespace Zz
open Go.Lg Md
set_option linter.unusedSimpArgs false
set_option linter.unusedVariables false
attribute [local simp] ia_mv ia_newnil ia_pick ia_bin ia_eqb ia_eqs ia_un ia_len ia_lens ia_chk ia_fld ia_fldv ia_idxa ia_idx ia_load ia_store ia_slice ia_slices ia_make ia_alloc ia_box ia_build ia_bslice ia_app ia_b2i ia_i2b ia_i2i ia_same ia_b2s ia_s2b ia_ext ia_mm ia_idxp ia_calld ia_mkfn ia_i2r ia_r2s ia_call pt_nil pt_cons mi_nil mi_cons md_bslice md_mv md_newnil md_pick md_bin md_eqb md_un md_len md_lens md_fld md_fldv md_idxa md_idx md_load md_store md_slice md_slices md_make md_alloc md_box md_build md_app md_conv md_ext md_call md_calld md_callg md_mkfn md_mm md_idxp md_eqn md_eqs md_chk tg_bslice tg_mv tg_newnil tg_pick tg_bin tg_eqb tg_un tg_len tg_lens tg_fld tg_fldv tg_idxa tg_idx tg_load tg_store tg_slice tg_slices tg_make tg_alloc tg_box tg_build tg_app tg_conv tg_ext tg_call tg_calld tg_callg tg_mkfn tg_mm tg_idxp tg_eqn tg_eqs tg_chk rp_eq ro_eq ifP_t ifP_f np_def ng1_nil ng2_nil ng_gate ng_gen tgA_t tgA_0 tgA_1 tgA_2 aC_nil aC_c aC_t nxP_some nxP_none rq_nil rq_gen rq_gate nxR_some nxR_none ru_nil ru_gen ru_gate pl_none pl_some gt_nil gt_t gt_c di_some di_none an_nil an_cons nxG_some nxG_none rg_nil rg_gen rg_gate oldO_some oa_nil oa_i oa_y oa_b oa_s oa_st oa_sl oa_own oa_oad oa_nl al_nil al_cons al_i al_y al_b al_s al_st al_sl nxF_some nxF_none rf_nil rf_gen rf_gate hk_newnil hk_make hk_alloc hk_box hk_build hk_bslice hk_call hk_store hk_app cl_nil cl_cons ai_nil ai_cons il_i il_y il_b il_s il_st il_sl il_own il_adr il_oad il_ref il_fr il_tup il_nil il_np il_und il_dead ol_adr ol_b ol_dead ol_e ol_fn ol_fr ol_i ol_nil ol_np ol_oad ol_own ol_q ol_r ol_ref ol_s ol_sl ol_st ol_tup ol_und ol_w ol_y oj_e oj_i oj_y oj_b oj_s oj_st oj_sl oj_own oj_adr oj_oad oj_ref oj_fr oj_tup oj_nil oj_np oj_und oj_dead oj_w oj_q oj_r oj_fn oi_e oi_i oi_y oi_b oi_s oi_st oi_sl oi_own oi_adr oi_oad oi_ref oi_fr oi_tup oi_nil oi_np oi_und oi_dead as_nil as_cons ao_nil ao_cons av_i av_y av_b av_s av_st av_sl av_own av_adr av_oad av_ref av_fr av_tup av_nil av_np av_und av_dead pro_cons ghK_some ks_promote ks_freeze frz_own ks_rename ren_own dropO adoptP newP wholeP cutP allOldL ex_skip ex_ret ex_exit ks_region ks_seq ks_cond ks_block seqK_n seqK_e seqK_r regK_some condK_t condK_f blkK_n blkK_r blkK_e endK_n endK_r rr_false rr_true rd_free mo_nil mo_cons drK_some drK_none nxW_some nxW_none rw_nil rw_gen rw_gate ak_newnil ak_make ak_alloc ak_box ak_build ak_bslice ak_call ak_store ak_app iw_mm iw_eqn iw_idxp ef_callg cgK_some gv_e gv_own gv_i gv_sl gv_st gv_b gv_nil gvK_some gvO_some iw_callg ia_callg ak_callg hk_callg is_mv is_newnil is_pick is_bin is_eqb is_eqs is_un is_len is_lens is_chk is_fld is_fldv is_idxa is_idx is_load is_slice is_slices is_make is_alloc is_box is_build is_bslice is_app is_conv is_ext is_call is_calld is_callg is_mkfn is_mm is_idxp is_eqn is_store rt_nil rt_gen rt_gate nxT_some nxT_none ef_eqn_nil ef_eqn_sl ef_eqn_own ia_eqn ef_mmx ef_mmn ef_idxp nxD_some nxD_none ov_i ov_y ov_b ov_s ov_st ov_sl ov_own ov_oad ov_adr ov_nil ov_np ov_und ov_dead ov_tup oldN_some oldN_nil oldN_none so_none so_i so_y so_b so_s so_st so_sl so_adr so_nil so_np so_und so_dead anyM_nil anyM_t anyM_c so_own so_oad rd_nil rd_gen rd_mv rd_gate iw_mv iw_newnil iw_pick iw_bin iw_eqb iw_eqs iw_un iw_len iw_lens iw_chk iw_fld iw_fldv iw_idxa iw_idx iw_load iw_store iw_slice iw_slices iw_make iw_alloc iw_box iw_build iw_bslice iw_app iw_b2i iw_i2b iw_i2i iw_same iw_b2s iw_s2b iw_ext iw_call nm_i nm_y nm_b nm_s nm_st nm_sl nm_own nm_oad nm_adr nm_nil nm_np nm_und nm_dead nm_tup rl_nil rl_gate rl_mv rl_gen opv_t opv_c nx_some nx_none gate_tt gate_tf gate_ft gate_ff gate_u fr_ap em_nil em_i em_y em_b em_s em_st em_sl em_own em_adr em_oad em_ref em_nl em_np em_und em_dead em_tup0 em_tup_i em_tup_b em_tup_s em_tup_sl em_tup_st em_tup_np em_tup_own em_tup_oad mm_i mm_y mm_b mm_s mm_st mm_sl mm_own mm_oad mm_adr mm_nil mm_np mm_und mm_dead ef_mv ef_newnil ef_pickt ef_pickf ef_bin ef_eqb ef_eqs ef_un ef_lens ef_len_sl ef_len_own ef_len_nil ef_chk_adr ef_chk_oad ef_fld_adr ef_fld_oad ef_fldv idxR_some ef_idxa_sl ef_idxa_own ef_idx ef_load_adr_st ef_load_adr_i ef_load_adr_y ef_load_adr_b ef_load_adr_s ef_load_adr_sl atN_nil atN_zero atN_succ ef_load_oad ef_store ef_slice ef_slices ef_make ef_alloc ef_box ef_build ef_bslice ef_app_own ef_app_nil ef_b2i ef_i2b ef_i2i ef_same ef_ext ret1 ret2_some calL_some ef_call retC_i retC_y retC_b retC_s retC_st retC_sl retC_np retC_fr retC_ref retC_tup rk_nil rk_i rk_y rk_b rk_s rk_st rk_sl rk_own rk_oad rk_nl ok_nil ok_i ok_y ok_b ok_s ok_st ok_sl ok_own ok_oad ok_nl lo_nil lo_i lo_y lo_b lo_s lo_st lo_sl lo_own lo_oad lo_nl pr_nil pr_i pr_y pr_b pr_s pr_st pr_sl pr_own pr_nl pr_oad nr_i nr_y nr_b nr_s nr_st nr_sl nr_fr nr_np nr_tup ng_i ng_b ng_s ng_fr ng_nil resV effP_eff binD bi_add bi_sub bi_mul bi_quo bi_rem bi_eql bi_neq bi_lss bi_leq bi_gtr bi_geq bi_shl bi_shr bi_and bi_or bi_xor bi_andNot binY binS unD look put putD LS.get LS.drop killE sweep lookO putO dropO enter leave giveBackL giveBack outs lendArgs lendArg newOuts takeIn takeInL lendL DV.lend adoptL DV.adopt elems apartKs part DV.cells unpart settle settleL over mkId szId fillP fillE tk_e2 tk_i tk_y lt_e2 lt_i lt_y lend_rep al_e2 al_is al_ys al_rep al_app lend_app adopt_app new_app lend_e2 lend_i lend_y adopt_e2 adopt_i adopt_y new_e2 new_i allNewL DV.allNew bounds sliceD sliceS em_w em_q em_r em_fn em_tup_w em_tup_q em_tup_r mm_w mm_q mm_r mm_fn ef_load_adr_w ef_load_adr_q ef_load_adr_r retC_w retC_q retC_r rk_w rk_q rk_r rk_fn ok_w ok_q ok_r ok_fn lo_w lo_q lo_r lo_fn pr_w pr_q pr_r pr_fn nr_w nr_q nr_r ng_w ng_q ng_r oa_w oa_q oa_r oa_fn al_w al_q al_r al_fn ov_w ov_q ov_r ov_fn so_w so_q so_r so_fn il_w il_q il_r il_fn oi_w oi_q oi_r oi_fn av_w av_q av_r av_fn nm_w nm_q nm_r nm_fn ef_i2r ef_r2s ef_mkfn ef_idxp_adr ef_calld capsOk DV.cell List.all_cons List.all_nil rk_own_t lo_own_t lk_f lk_t pr_own_t mutB ak_calld hk_calld iw_calld iw_mkfn iw_i2r iw_r2s bw_and bw_or bw_xor bw_andNot bw_eql bw_neq sw_shl sw_shr sq_shl gEnv_nil rk_adr ok_adr lo_adr pr_adr oa_adr capL capArg DV.cap ak_mkfn hk_mkfn ef_callm gf_ap ga_nil ga_cons tgv_own gk_e gk_giv gk_i gk_y gk_b gk_s gk_w gk_q gk_r gk_fn gk_st gk_sl gk_own gk_oad gk_adr gk_nl gk_np rk_giv ok_giv lo_giv pr_giv oa_giv iw_callm hk_callm ak_callm is_callm ia_callm tg_callm md_callm ks_close cls_oad
attribute [local congr] ifP_congr nxP_congr nxR_congr nxT_congr nxG_congr nxF_congr ghK_congr gate_congr nx_congr nxD_congr runL_congr runD_congr eff_congr calL_congr ret2_congr seqK_congr regK_congr condK_congr endK_congr drK_congr nxW_congr
attribute [local simp ↓] nxT_some rt_nil rt_gen rt_gate nxP_some rq_nil rq_gen rq_gate nxR_some ru_nil ru_gen ru_gate nxG_some rg_nil rg_gen rg_gate nxF_some rf_nil rf_gen rf_gate ks_promote ks_freeze frz_own ks_rename ghK_some gate_tt gate_tf gate_ft gate_ff gate_u nx_some nxD_some rl_nil rl_mv rl_gen rl_gate rd_nil rd_mv rd_gen rd_gate rd_free rr_false rr_true drK_some drK_none nxW_some rw_nil rw_gen rw_gate ks_region ks_seq ks_cond ks_block seqK_n seqK_e seqK_r regK_some condK_t condK_f blkK_n blkK_r endK_n endK_r calL_some ret2_some opv_t opv_c
section
attribute [-simp] DV.cells
attribute [local simp] cells_st cells_sl cells_i cells_y cells_b cells_s cells_w
/-! ### which tests turn a value -/
theorem tabN_or {P : Nat → Bool} {k : Nat} (hk : k ≤ 40) : orI (tabN P k) (2 ^ k) = ((tabN P k ||| 2 ^ k : Nat) : Int) := by
  have a := tabN_lt P k
  have b : (2 : Nat) ^ k ≤ 2 ^ 40 := Nat.pow_le_pow_right (by omega) hk
  have := orI_nat (a := tabN P k) (b := 2 ^ k) (by omega) (by omega)
  rw [← this]; simp
set_option maxHeartbeats 4000000 in
theorem xor_fin : ∀ (s : Fin 32) (k : Fin 5), xorI (s.val : Int) ((2 : Int) ^ k.val) = ((s.val ^^^ 2 ^ k.val : Nat) : Int) ∧ s.val ^^^ 2 ^ k.val < 32 := by decide +kernel
theorem xor_nat {s k : Nat} (hs : s < 32) (hk : k < 5) : xorI (s : Int) ((2 : Int) ^ k) = ((s ^^^ 2 ^ k : Nat) : Int) ∧ s ^^^ 2 ^ k < 32 := xor_fin ⟨s, hs⟩ ⟨k, hk⟩
def tuP (ts : List T) (s k : Nat) : Bool := tv ts s != tv ts (s ^^^ 2 ^ k)
def tuOf (m : Int) (ts : List T) (s : Int) : Int := if tmOk m ts && stOk m s then (tabN (tuP ts s.toNat) m.toNat : Nat) else -1
end
section
attribute [-simp] DV.cells
attribute [local simp] cells_st cells_sl cells_i cells_y cells_b cells_s cells_w
/-! ### which tests never matter -/
theorem idle_fin : ∀ (k : Fin 5) (s : Fin 32), (s.val.testBit k.val = true → s.val ||| 2 ^ k.val = s.val ∧ ¬ ((2 ^ k.val + s.val < 32) ∧ (2 ^ k.val + s.val).testBit k.val = true)) ∧
    (s.val.testBit k.val = false → 2 ^ k.val + s.val = s.val ||| 2 ^ k.val ∧ 2 ^ k.val + s.val < 32 ∧ (2 ^ k.val + s.val).testBit k.val = true) := by decide +kernel
theorem yes_bit' {k s : Nat} (hk : k < 5) (hs : s < 32) : (yesW k).getLsbD s = s.testBit k := yes_bit ⟨k, hk⟩ ⟨s, hs⟩
def idW (v : BitVec 32) (k : Nat) : Bool := (v &&& yesW k) >>> (2 ^ k) == (v &&& ~~~ yesW k)
theorem idW_iff {v : BitVec 32} {k : Nat} (hk : k < 5) : idW v k = true ↔ ∀ s, s < 32 → v.getLsbD s = v.getLsbD (s ||| 2 ^ k) := by
  unfold idW
  rw [beq_iff_eq]
  have key : ∀ s, s < 32 → ((((v &&& yesW k) >>> (2 ^ k)).getLsbD s = (v &&& ~~~ yesW k).getLsbD s) ↔ v.getLsbD s = v.getLsbD (s ||| 2 ^ k)) := by
    intro s hs
    obtain ⟨f1, f2⟩ := idle_fin ⟨k, hk⟩ ⟨s, hs⟩
    simp only at f1 f2
    rw [BitVec.getLsbD_ushiftRight, BitVec.getLsbD_and, BitVec.getLsbD_and, BitVec.getLsbD_not, yes_bit' hk hs]
    cases hb : s.testBit k with
    | true =>
      obtain ⟨g1, g2⟩ := f1 hb
      rw [g1]
      by_cases hlt : 2 ^ k + s < 32
      · rw [yes_bit' hk hlt]
        have : (2 ^ k + s).testBit k = false := by
          cases h : (2 ^ k + s).testBit k with
          | false => rfl
          | true => exact absurd ⟨hlt, h⟩ g2
        simp [this]
      · rw [BitVec.getLsbD_of_ge v _ (by omega)]; simp
    | false =>
      obtain ⟨g1, g2, g3⟩ := f2 hb
      rw [← g1, yes_bit' hk g2, g3]
      simp [hs, eq_comm]
  constructor
  · intro h s hs
    exact (key s hs).1 (by rw [h])
  · intro h
    apply BitVec.eq_of_getLsbD_eq
    intro s hs
    exact (key s hs).2 (h s hs)
/-- the tests that never matter -/
def idP (m : Int) (ts : List T) (k : Nat) : Bool := allTo (fun s => tv ts s == tv ts (s ||| 2 ^ k)) (2 ^ m.toNat)
theorem idP_iff {m : Int} {ts : List T} {k : Nat} : idP m ts k = true ↔ ∀ s, s < 2 ^ m.toNat → tv ts s = tv ts (s ||| 2 ^ k) := by
  unfold idP
  rw [allTo_iff]
  simp
theorem or_mod {s k n : Nat} (hk : k < n) : (s ||| 2 ^ k) % 2 ^ n = (s % 2 ^ n) ||| 2 ^ k := by
  apply Nat.eq_of_testBit_eq
  intro i
  rw [Nat.testBit_mod_two_pow, Nat.testBit_or, Nat.testBit_or, Nat.testBit_mod_two_pow, Nat.testBit_two_pow]
  by_cases hi : i < n
  · simp [hi]
  · have : k ≠ i := by omega
    simp [hi, this]
theorem idW_P {m : Int} {ts : List T} (h : tmOk m ts = true) {k : Nat} (hk : (k : Int) < m) : idW (tsW ts) k = idP m ts k := by
  obtain ⟨h1, _, _⟩ := tmOk_iff.1 h
  obtain ⟨p1, p2, p3⟩ := pow5 h1.1 h1.2
  rw [Bool.eq_iff_iff, idW_iff (by omega), idP_iff]
  constructor
  · exact fun q s hs => q s (by omega)
  · intro q s hs
    have hlt : s ||| 2 ^ k < 2 ^ 5 := Nat.or_lt_two_pow (by omega) (Nat.pow_lt_pow_right (by omega) (by omega))
    have := q (s % 2 ^ m.toNat) (Nat.mod_lt _ (by omega))
    rw [← or_mod (by omega), tv_mod h hs, tv_mod h (by omega)] at this
    exact this
def idOf (m : Int) (ts : List T) : Int := if tmOk m ts then (tabN (idP m ts) m.toNat : Nat) else -1
theorem or_fin : ∀ (s : Fin 32) (k : Fin 5), orI (s.val : Int) ((2 : Int) ^ k.val) = ((s.val ||| 2 ^ k.val : Nat) : Int) := by decide +kernel
theorem or_nat {s k : Nat} (hs : s < 32) (hk : k < 5) : orI (s : Int) ((2 : Int) ^ k) = ((s ||| 2 ^ k : Nat) : Int) := or_fin ⟨s, hs⟩ ⟨k, hk⟩
theorem allTo_succ (P : Nat → Bool) (n : Nat) : allTo P (n + 1) = (allTo P n && P n) := by
  rw [Bool.eq_iff_iff, Bool.and_eq_true, allTo_iff, allTo_iff]
  constructor
  · exact fun h => ⟨fun i hi => h i (by omega), h n (by omega)⟩
  · intro h i hi
    rcases Nat.lt_succ_iff_lt_or_eq.1 hi with q | rfl
    · exact h.1 i q
    · exact h.2
end
section
attribute [-simp] DV.cells
attribute [local simp] cells_st cells_sl cells_i cells_y cells_b cells_s cells_w
/-! ### the weight of the states in which a term is true -/
def twP (ts : List T) (t : List T) (s : Nat) : Int := if tv t s then wt ts s else 0
def tw (ts t : List T) (n : Nat) : Int := sumTo (twP ts t) n
theorem tw_succ (ts t : List T) (n : Nat) : tw ts t (n + 1) = tw ts t n + twP ts t n := rfl
theorem twP_bound {ts : List T} (h : tsOk ts = true) (t : List T) (s : Nat) : 0 ≤ twP ts t s ∧ twP ts t s ≤ 7776 := by
  have h' := tsOk_iff.1 h
  have := wt_le h'.2 (by omega) (s : Int)
  unfold twP; split <;> omega
theorem tw_bound {ts : List T} (h : tsOk ts = true) (t : List T) (n : Nat) (hn : n ≤ 32) : 0 ≤ tw ts t n ∧ tw ts t n ≤ 1000000 := by
  have := sumTo_nonneg (f := twP ts t) (B := 7776) (by omega) n (fun k _ => twP_bound h t k)
  unfold tw; omega
def twOf (ts t : List T) : Int := if tsOk ts && tmOk ts.length t then tw ts t (2 ^ ts.length) else -1
/-! the other tests, and the dual term -/
theorem sumTo_rev (f : Nat → Int) : ∀ n, sumTo f n = sumTo (fun k => f (n - 1 - k)) n := by
  have add : ∀ (f g : Nat → Int) n, sumTo (fun k => f k + g k) n = sumTo f n + sumTo g n := by
    intro f g n
    induction n with
    | zero => rfl
    | succ n ih => simp only [sumTo, ih]; omega
  have sh : ∀ (f : Nat → Int) n, sumTo f (n + 1) = f 0 + sumTo (fun k => f (k + 1)) n := by
    intro f n
    induction n with
    | zero => simp [sumTo]
    | succ n ih => rw [sumTo, ih]; simp only [sumTo]; omega
  intro n
  induction n generalizing f with
  | zero => rfl
  | succ n ih =>
    rw [sh, ih (fun k => f (k + 1))]
    have e1 : sumTo (fun k => f (n + 1 - 1 - k)) (n + 1) = sumTo (fun k => f (n - k)) n + f 0 := by simp [sumTo]
    have e2 : sumTo (fun k => f (n - 1 - k + 1)) n = sumTo (fun k => f (n - k)) n := sumTo_congr fun k hk => by rw [show n - 1 - k + 1 = n - k by omega]
    rw [e1, e2]; omega
theorem sumTo_add (f g : Nat → Int) : ∀ n, sumTo (fun k => f k + g k) n = sumTo f n + sumTo g n
  | 0 => rfl
  | n + 1 => by simp only [sumTo, sumTo_add f g n]; omega
theorem tw_other {ts t : List T} (h1 : tsOk ts = true) (h2 : tmOk ts.length t = true) : tw ts t (2 ^ ts.length) + tw (ts.map other) (t.map dT) (2 ^ ts.length) = 6 ^ ts.length := by
  have h1' := tsOk_iff.1 h1
  obtain ⟨p1, p2, p3⟩ := pow5 (m := ts.length) (by omega) (by omega)
  simp only [Int.toNat_natCast] at p1 p2 p3
  unfold tw
  rw [sumTo_rev (twP (ts.map other) (t.map dT)), ← sumTo_add, ← wt_sum ts]
  refine sumTo_congr fun k hk => ?_
  have hk' : k < 2 ^ (ts.length : Int).toNat := by rw [Int.toNat_natCast]; exact hk
  have e : 2 ^ ts.length - 1 - k = opp ts.length k := by unfold opp; rw [Int.toNat_natCast]
  rw [e]
  unfold twP
  rw [tv_dual h2 hk']
  have w := wt_other ts k (by omega) (by omega)
  have e' : ((opp ts.length k : Nat) : Int) = 2 ^ ts.length - 1 - k := by rw [← e]; omega
  rw [e', w]
  cases tv t k <;> simp
end
section
attribute [-simp] DV.cells
attribute [local simp] cells_st cells_sl cells_i cells_y cells_b cells_s cells_w
/-! ### least proofs -/
def sel (P : Nat → Bool) (n : Nat) : List Int := ((List.range n).filter P).map fun (k : Nat) => (k : Int)
theorem sel_succ (P : Nat → Bool) (n : Nat) : sel P (n + 1) = sel P n ++ if P n then [(n : Int)] else [] := by
  unfold sel
  rw [List.range_succ, List.filter_append, List.map_append]
  cases h : P n <;> simp [h]
theorem sel_len (P : Nat → Bool) (n : Nat) : (sel P n).length ≤ n := by
  unfold sel
  rw [List.length_map]
  exact Nat.le_trans (List.length_filter_le _ _) (by simp)
theorem sel_congr {P Q : Nat → Bool} {n : Nat} (h : ∀ k, k < n → P k = Q k) : sel P n = sel Q n := by
  unfold sel
  congr 1
  exact List.filter_congr fun k hk => h k (List.mem_range.1 hk)
def lpP (m : Int) (ts : List T) (s o : Nat) : Bool := prf m ts s o && allTo (fun k => !o.testBit k || !prf m ts s (o - 2 ^ k)) m.toNat
def lpOf (m : Int) (ts : List T) (s : Int) : List Int := if tmOk m ts && stOk m s then sel (lpP m ts s.toNat) (2 ^ m.toNat) else []
theorem anot_fin : ∀ (o : Fin 32) (k : Fin 5), o.val.testBit k.val = true → andNotI (o.val : Int) ((2 : Int) ^ k.val) = ((o.val - 2 ^ k.val : Nat) : Int) ∧ (o.val : Int) - 2 ^ k.val = ((o.val - 2 ^ k.val : Nat) : Int) := by decide +kernel
theorem anot_nat {o k : Nat} (ho : o < 32) (hk : k < 5) (h : o.testBit k = true) : andNotI (o : Int) ((2 : Int) ^ k) = ((o - 2 ^ k : Nat) : Int) ∧ (o : Int) - 2 ^ k = ((o - 2 ^ k : Nat) : Int) := anot_fin ⟨o, ho⟩ ⟨k, hk⟩ h
end
section
attribute [-simp] DV.cells
attribute [local simp] cells_st cells_sl cells_i cells_y cells_b cells_s cells_w
set_option maxHeartbeats 4000000 in
def stLp (m s : Int) (out : List Int) (tab o : Nat) (b : Bool) (k : Int) : LS := ⟨[(0, .i m), (2, .i s), (7, .own 6152 out.length 0 out.length), (8, .i tab), (9, .i o), (10, .b b), (11, .i k)], [(6152, out.map .i)]⟩
def lpF (m : Int) (ts : List T) (s o k : Nat) : Bool := !o.testBit k || !prf m ts s (o - 2 ^ k)
set_option maxHeartbeats 4000000 in
theorem lpP_eq (m : Int) (ts : List T) (s o : Nat) : lpP m ts s o = (prf m ts s o && allTo (lpF m ts s o) m.toNat) := rfl
end
section
attribute [-simp] DV.cells
attribute [local simp] cells_st cells_sl cells_i cells_y cells_b cells_s
end
end Zz
