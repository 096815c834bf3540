/- What the functions answer, as equations: E5. No conditions. -/
import Derived.Test.YtjallbfleicfnaaE3
set_option linter.unusedSectionVars false
set_option linter.unusedVariables false
set_option linter.unusedSimpArgs false
namespace Zz
open Go.Lg Md
set_option linter.unusedSimpArgs false
set_option linter.unusedVariables false
attribute [local simp] oldO_some oa_nil oa_i oa_y oa_b oa_s oa_st oa_sl oa_own oa_oad oa_nl al_nil al_cons al_i al_y al_b al_s al_st al_sl nxF_some nxF_none rf_nil rf_gen rf_gate hk_newnil hk_make hk_alloc hk_box hk_build hk_bslice hk_call hk_store hk_app cl_nil cl_cons ai_nil ai_cons il_i il_y il_b il_s il_st il_sl il_own il_adr il_oad il_ref il_fr il_tup il_nil il_np il_und il_dead oi_e oi_i oi_y oi_b oi_s oi_st oi_sl oi_own oi_adr oi_oad oi_ref oi_fr oi_tup oi_nil oi_np oi_und oi_dead as_nil as_cons ao_nil ao_cons av_i av_y av_b av_s av_st av_sl av_own av_adr av_oad av_ref av_fr av_tup av_nil av_np av_und av_dead pro_cons ghK_some ks_promote ks_rename ren_own dropO adoptP newP wholeP cutP allOldL ex_skip ex_ret ex_exit ks_region ks_seq ks_cond ks_block seqK_n seqK_e seqK_r regK_some condK_t condK_f blkK_n blkK_r blkK_e endK_n endK_r rr_false rr_true rd_free mo_nil mo_cons drK_some drK_none nxW_some nxW_none rw_nil rw_gen rw_gate ak_newnil ak_make ak_alloc ak_box ak_build ak_bslice ak_call ak_store ak_app iw_mm iw_idxp ef_mmx ef_mmn ef_idxp nxD_some nxD_none ov_i ov_y ov_b ov_s ov_st ov_sl ov_own ov_oad ov_adr ov_nil ov_np ov_und ov_dead ov_tup oldN_some oldN_nil oldN_none so_none so_i so_y so_b so_s so_st so_sl so_adr so_nil so_np so_und so_dead anyM_nil anyM_t anyM_c so_own so_oad rd_nil rd_gen rd_mv rd_gate iw_mv iw_newnil iw_pick iw_bin iw_eqb iw_eqs iw_un iw_len iw_lens iw_chk iw_fld iw_fldv iw_idxa iw_idx iw_load iw_store iw_slice iw_slices iw_make iw_alloc iw_box iw_build iw_bslice iw_app iw_b2i iw_i2b iw_i2i iw_same iw_b2s iw_s2b iw_ext iw_call nm_i nm_y nm_b nm_s nm_st nm_sl nm_own nm_oad nm_adr nm_nil nm_np nm_und nm_dead nm_tup rl_nil rl_gate rl_mv rl_gen opv_t opv_c nx_some nx_none gate_tt gate_tf gate_ft gate_ff gate_u fr_ap em_nil em_i em_y em_b em_s em_st em_sl em_own em_adr em_oad em_ref em_nl em_np em_und em_dead em_tup0 em_tup_i em_tup_b em_tup_s em_tup_sl em_tup_st em_tup_np em_tup_own em_tup_oad mm_i mm_y mm_b mm_s mm_st mm_sl mm_own mm_oad mm_adr mm_nil mm_np mm_und mm_dead ef_mv ef_newnil ef_pickt ef_pickf ef_bin ef_eqb ef_eqs ef_un ef_lens ef_len_sl ef_len_own ef_len_nil ef_chk_adr ef_chk_oad ef_fld_adr ef_fld_oad ef_fldv idxR_some ef_idxa_sl ef_idxa_own ef_idx ef_load_adr_st ef_load_adr_i ef_load_adr_y ef_load_adr_b ef_load_adr_s ef_load_adr_sl atN_nil atN_zero atN_succ ef_load_oad ef_store ef_slice ef_slices ef_make ef_alloc ef_box ef_build ef_bslice ef_app_own ef_app_nil ef_b2i ef_i2b ef_i2i ef_same ef_ext ret1 ret2_some calL_some ef_call retC_i retC_y retC_b retC_s retC_st retC_sl retC_np retC_fr retC_ref retC_tup rk_nil rk_i rk_y rk_b rk_s rk_st rk_sl rk_own rk_oad rk_nl ok_nil ok_i ok_y ok_b ok_s ok_st ok_sl ok_own ok_oad ok_nl lo_nil lo_i lo_y lo_b lo_s lo_st lo_sl lo_own lo_oad lo_nl pr_nil pr_i pr_y pr_b pr_s pr_st pr_sl pr_own pr_nl pr_oad nr_i nr_y nr_b nr_s nr_st nr_sl nr_fr nr_np nr_tup ng_i ng_b ng_s ng_fr ng_nil resV effP_eff binD bi_add bi_sub bi_mul bi_quo bi_rem bi_eql bi_neq bi_lss bi_leq bi_gtr bi_geq bi_shl bi_shr bi_and bi_or bi_xor bi_andNot binY binS unD look put putD LS.get LS.drop killE sweep lookO putO dropO enter leave giveBackL giveBack outs lendArgs lendArg newOuts takeIn takeInL lendL DV.lend adoptL DV.adopt elems apartKs part DV.cells unpart settle settleL over mkId szId fillP fillE tk_e2 tk_i tk_y lt_e2 lt_i lt_y lend_rep al_e2 al_is al_ys al_rep al_app lend_app adopt_app new_app lend_e2 lend_i lend_y adopt_e2 adopt_i adopt_y new_e2 new_i allNewL DV.allNew bounds sliceD sliceS em_w em_q em_r em_fn em_tup_w em_tup_q em_tup_r mm_w mm_q mm_r mm_fn ef_load_adr_w ef_load_adr_q ef_load_adr_r retC_w retC_q retC_r rk_w rk_q rk_r rk_fn ok_w ok_q ok_r ok_fn lo_w lo_q lo_r lo_fn pr_w pr_q pr_r pr_fn nr_w nr_q nr_r ng_w ng_q ng_r oa_w oa_q oa_r oa_fn al_w al_q al_r al_fn ov_w ov_q ov_r ov_fn so_w so_q so_r so_fn il_w il_q il_r il_fn oi_w oi_q oi_r oi_fn av_w av_q av_r av_fn nm_w nm_q nm_r nm_fn ef_i2r ef_r2s ef_mkfn ef_idxp_adr ef_calld capsOk DV.cell List.all_cons List.all_nil rk_own_t lo_own_t lk_f lk_t pr_own_t mutB ak_calld hk_calld iw_calld iw_mkfn iw_i2r iw_r2s bw_and bw_or bw_xor bw_andNot bw_eql bw_neq sw_shl sw_shr sq_shl gEnv_nil rk_adr ok_adr lo_adr pr_adr oa_adr capL capArg DV.cap ak_mkfn hk_mkfn
attribute [local congr] nxF_congr ghK_congr gate_congr nx_congr nxD_congr runL_congr runD_congr eff_congr calL_congr ret2_congr seqK_congr regK_congr condK_congr endK_congr drK_congr nxW_congr
attribute [local simp ↓] nxF_some rf_nil rf_gen rf_gate ks_promote ks_rename ghK_some gate_tt gate_tf gate_ft gate_ff gate_u nx_some nxD_some rl_nil rl_mv rl_gen rl_gate rd_nil rd_mv rd_gen rd_gate rd_free rr_false rr_true drK_some drK_none nxW_some rw_nil rw_gen rw_gate ks_region ks_seq ks_cond ks_block seqK_n seqK_e seqK_r regK_some condK_t condK_f blkK_n blkK_r endK_n endK_r calL_some ret2_some opv_t opv_c

/-! ### terms -/
/-- a mark read with p parts before it -/
def mkS (m p : Int) (t : T) : Option Int :=
  if t.1 = 0 then (if 0 ≤ t.2 ∧ t.2 < m then some (p + 1) else none)
  else if t.1 = 1 then (if t.2 = 0 ∧ 1 ≤ p then some p else none)
  else if t.1 = 2 ∨ t.1 = 3 then (if t.2 = 0 ∧ 2 ≤ p then some (p - 1) else none)
  else none
def runM (m : Int) : Int → List T → Option Int
  | p, [] => some p
  | p, t :: r => match mkS m p t with
    | some q => runM m q r
    | none => none
def tmOk (m : Int) (ts : List T) : Bool := nOk m && decide ((ts.length : Int) ≤ 13) && runM m 0 ts == some 1
theorem c_impl_partsTaken (k : Int) : call lf n_impl_partsTaken [.i k] = some (.i (if k = 0 then 0 else if k = 1 then 1 else 2), []) := by
  rw [call_k lf n_impl_partsTaken _ (F := F_impl_partsTaken) rfl rfl]
  by_cases h0 : k = 0
  · simp [F_impl_partsTaken, h0]
  · have h0' : (k == 0) = false := beq_eq_false_iff_ne.2 h0
    by_cases h1 : k = 1
    · simp [F_impl_partsTaken, h1]
    · have h1' : (k == 1) = false := beq_eq_false_iff_ne.2 h1
      simp [F_impl_partsTaken, h0, h1, h0', h1']
theorem c_impl_markOk (m k a : Int) (hm : nOk m = true) : call lf n_impl_markOk [.i m, .st [.i k, .i a]] = some (.b (if k = 0 then decide (0 ≤ a ∧ a < m) else decide ((1 ≤ k ∧ k ≤ 3) ∧ a = 0)), []) := by
  rw [call_k lf n_impl_markOk _ (F := F_impl_markOk) rfl rfl]
  have hm' := nOk_iff.1 hm
  have w : wr (m - 1) = m - 1 := wr_id (by omega) (by omega)
  by_cases h0 : k = 0
  · have e : decide (0 ≤ a ∧ a ≤ m - 1) = decide (0 ≤ a ∧ a < m) := decide_eq_decide.2 (by omega)
    simp [F_impl_markOk, h0, w, c_impl_isWithin, e]
  · have h0' : (k == 0) = false := beq_eq_false_iff_ne.2 h0
    by_cases h1 : 1 ≤ k ∧ k ≤ 3
    · have d1 : decide (1 ≤ k ∧ k ≤ 3) = true := decide_eq_true h1
      have e : decide ((1 ≤ k ∧ k ≤ 3) ∧ a = 0) = (a == 0) := by
        by_cases ha : a = 0
        · simp [ha, h1]
        · have ha' : (a == 0) = false := beq_eq_false_iff_ne.2 ha
          rw [ha']; simp [ha]
      simp [F_impl_markOk, h0, h0', c_impl_isWithin, d1, e]
    · have d1 : decide (1 ≤ k ∧ k ≤ 3) = false := decide_eq_false h1
      have e : decide ((1 ≤ k ∧ k ≤ 3) ∧ a = 0) = false := decide_eq_false (fun h => h1 h.1)
      simp [F_impl_markOk, h0, h0', c_impl_isWithin, d1, e]
set_option maxHeartbeats 4000000 in
theorem l_impl_TermOk (m : Int) (hm : nOk m = true) (n : Int) (hb : n < 1099511627776) (es : List DV) (rest : List T) : ∀ k p : Int, 0 ≤ k → k + (rest.map e2).length = n → es.drop k.toNat = rest.map e2 → 0 ≤ p → p ≤ k →
    ex lf F_impl_TermOk_W0 ⟨[(0, .i m), (5, .i p), (18, .sl 0 es), (19, .i n), (20, .i k)], []⟩ =
    match runM m p rest with
    | some q => some (.exit 0, ⟨[(0, .i m), (5, .i q), (18, .sl 0 es), (19, .i n), (20, .i n)], []⟩)
    | none => some (.ret, ⟨[(4, .b false)], []⟩) := by
  induction rest with
  | nil =>
    intro k p h0 hn hd _ _
    rw [w_impl_TermOk_0]
    have hk : k = n := by simpa using hn
    simp [F_impl_TermOk_L0, hk, runM]
  | cons t rest ih =>
    intro k p h0 hn hd hp hpk
    obtain ⟨q1, q2, q3, q4, q5, q6⟩ := stp h0 hn hb hd
    have mk := c_impl_markOk m t.1 t.2 hm
    simp only [e2] at q2
    have nb : k ≤ 1099511627776 := by omega
    have w0 : wr (1 : Int) = 1 := wr_id (by omega) (by omega)
    have w1 : wr (p + 1) = p + 1 := wr_id (by omega) (by omega)
    have w2 : wr p = p := wr_id (by omega) (by omega)
    have w3 : wr (-1 : Int) = -1 := wr_id (by omega) (by omega)
    have w4 : wr (p + -1) = p + -1 := wr_id (by omega) (by omega)
    have w5 : wr (0 : Int) = 0 := wr_id (by omega) (by omega)
    obtain ⟨kd, a⟩ := t
    simp only at mk q2
    rw [w_impl_TermOk_0, runM]
    have iha := ih (k + 1) (p + 1) q4 q5 q6 (by omega) (by omega)
    have ihb := ih (k + 1) p q4 q5 q6 (by omega) (by omega)
    by_cases k0 : kd = 0
    · subst k0
      by_cases ha : 0 ≤ a ∧ a < m
      · have e : mkS m p (0, a) = some (p + 1) := by simp [mkS, ha]
        have d : decide (0 ≤ a ∧ a < m) = true := decide_eq_true ha
        simp only [if_true, d] at mk
        have np : ¬ p < 0 := by omega
        simp [F_impl_TermOk_L0, q1, q2, q3, mk, c_impl_partsTaken, np, w0, w1, iha, e]
      · have e : mkS m p (0, a) = none := by simp only [mkS, if_true, if_neg ha]
        have d : decide (0 ≤ a ∧ a < m) = false := decide_eq_false ha
        simp only [if_true, d] at mk
        simp [F_impl_TermOk_L0, q1, q2, q3, mk, c_impl_partsTaken, e]
    · rw [if_neg k0] at mk
      by_cases k1 : kd = 1
      · subst k1
        by_cases ha : a = 0
        · subst ha
          by_cases hp1 : 1 ≤ p
          · have e : mkS m p (1, 0) = some p := by simp [mkS, hp1]
            have np : ¬ p < 1 := by omega
            simp at mk
            simp [F_impl_TermOk_L0, q1, q2, q3, mk, c_impl_partsTaken, np, w2, w5, ihb, e]
          · have e : mkS m p (1, 0) = none := by simp [mkS, hp1]
            have np : p < 1 := by omega
            simp at mk
            simp [F_impl_TermOk_L0, q1, q2, q3, mk, c_impl_partsTaken, np, e]
        · have e : mkS m p (1, a) = none := by simp [mkS, ha]
          have d : decide ((1 ≤ (1 : Int) ∧ (1 : Int) ≤ 3) ∧ a = 0) = false := decide_eq_false (fun h => ha h.2)
          rw [d] at mk
          simp [F_impl_TermOk_L0, q1, q2, q3, mk, c_impl_partsTaken, e]
      · by_cases k2 : kd = 2 ∨ kd = 3
        · by_cases ha : a = 0
          · subst ha
            have d : decide ((1 ≤ kd ∧ kd ≤ 3) ∧ (0 : Int) = 0) = true := decide_eq_true ⟨by omega, rfl⟩
            rw [d] at mk
            by_cases hp1 : 2 ≤ p
            · have e : mkS m p (kd, 0) = some (p - 1) := by simp [mkS, k0, k1, k2, hp1]
              have np : ¬ p < 2 := by omega
              have ihc := ih (k + 1) (p - 1) q4 q5 q6 (by omega) (by omega)
              simp only [Int.sub_eq_add_neg] at ihc e
              simp [F_impl_TermOk_L0, q1, q2, q3, mk, c_impl_partsTaken, k0, k1, np, w3, w4, ihc, e]
            · have e : mkS m p (kd, 0) = none := by simp [mkS, k0, k1, k2, hp1]
              have np : p < 2 := by omega
              simp [F_impl_TermOk_L0, q1, q2, q3, mk, c_impl_partsTaken, k0, k1, np, e]
          · have e : mkS m p (kd, a) = none := by simp [mkS, k0, k1, k2, ha]
            have d : decide ((1 ≤ kd ∧ kd ≤ 3) ∧ a = 0) = false := decide_eq_false (fun h => ha h.2)
            rw [d] at mk
            simp [F_impl_TermOk_L0, q1, q2, q3, mk, c_impl_partsTaken, k0, k1, e]
        · have e : mkS m p (kd, a) = none := by simp [mkS, k0, k1, k2]
          have d : decide ((1 ≤ kd ∧ kd ≤ 3) ∧ a = 0) = false := decide_eq_false (fun h => by omega)
          rw [d] at mk
          simp [F_impl_TermOk_L0, q1, q2, q3, mk, c_impl_partsTaken, k0, k1, e]
theorem c_impl_TermOk (m : Int) (ts : List T) (hb : (ts.length : Int) < 1099511627776) : call lf n_impl_TermOk [.i m, .sl 0 (ts.map e2)] = some (.b (tmOk m ts), []) := by
  rw [call_k lf n_impl_TermOk _ (F := F_impl_TermOk) rfl rfl]
  cases h1 : nOk m with
  | false => simp [F_impl_TermOk, c_impl_manyOk, h1, tmOk]
  | true =>
    by_cases h2 : 1 ≤ (ts.length : Int) ∧ (ts.length : Int) ≤ 13
    · have d : decide (1 ≤ (ts.length : Int) ∧ (ts.length : Int) ≤ 13) = true := decide_eq_true h2
      have L := l_impl_TermOk m h1 ts.length hb (ts.map e2) ts 0 0 (by omega) (by simp) (by simp) (by omega) (by omega)
      have d2 : decide ((ts.length : Int) ≤ 13) = true := decide_eq_true h2.2
      cases hr : runM m 0 ts with
      | none =>
        rw [hr] at L
        simp [F_impl_TermOk, c_impl_manyOk, c_impl_isWithin, h1, d, L, tmOk, hr]
      | some q =>
        rw [hr] at L
        have e : tmOk m ts = (q == 1) := by
          rw [tmOk, h1, d2, hr]
          cases hq : q == 1 <;> simp_all
        simp [F_impl_TermOk, c_impl_manyOk, c_impl_isWithin, h1, d, L, e]
    · have d : decide (1 ≤ (ts.length : Int) ∧ (ts.length : Int) ≤ 13) = false := decide_eq_false h2
      have e : tmOk m ts = false := by
        by_cases h3 : (ts.length : Int) ≤ 13
        · have : ts = [] := List.eq_nil_of_length_eq_zero (by omega)
          subst this
          simp [tmOk, runM]
        · simp only [tmOk, decide_eq_false h3, Bool.and_false, Bool.false_and]
      simp [F_impl_TermOk, c_impl_manyOk, c_impl_isWithin, h1, d, e]
set_option maxHeartbeats 4000000 in
theorem l_spec_TermOk (m : Int) (n : Int) (hb : n < 1099511627776) (es : List DV) (hE : (es.length : Int) = n) (rest : List T) : ∀ k p : Int, 0 ≤ k → k + (rest.map e2).length = n → es.drop k.toNat = rest.map e2 → 0 ≤ p → p ≤ k →
    ex lf F_spec_TermOk_W0 ⟨[(0, .i m), (1, .sl 0 es), (5, .i p), (6, .i k)], []⟩ =
    match runM m p rest with
    | some q => some (.exit 0, ⟨[(0, .i m), (1, .sl 0 es), (5, .i q), (6, .i n)], []⟩)
    | none => some (.ret, ⟨[(4, .b false)], []⟩) := by
  induction rest with
  | nil =>
    intro k p h0 hn hd _ _
    rw [w_spec_TermOk_0]
    have hk : k = n := by simpa using hn
    simp [F_spec_TermOk_L0, hk, hE, runM]
  | cons t rest ih =>
    intro k p h0 hn hd hp hpk
    obtain ⟨q1, q2, q3, q4, q5, q6⟩ := stp h0 hn hb hd
    simp only [e2] at q2
    have w1 : wr (p + 1) = p + 1 := wr_id (by omega) (by omega)
    have w2 : wr (p - 1) = p - 1 := wr_id (by omega) (by omega)
    obtain ⟨kd, a⟩ := t
    simp only at q2
    rw [w_spec_TermOk_0, runM]
    have iha := ih (k + 1) (p + 1) q4 q5 q6 (by omega) (by omega)
    have ihb := ih (k + 1) p q4 q5 q6 (by omega) (by omega)
    by_cases k0 : kd = 0
    · subst k0
      by_cases ha : 0 ≤ a
      · by_cases hb : a < m
        · have e : mkS m p (0, a) = some (p + 1) := by simp [mkS, ha, hb]
          simp [F_spec_TermOk_L0, q1, q2, q3, hE, ha, hb, w1, iha, e, eqI]
        · have e : mkS m p (0, a) = none := by simp [mkS, hb]
          simp [F_spec_TermOk_L0, q1, q2, q3, hE, ha, hb, e, eqI]
      · have e : mkS m p (0, a) = none := by simp [mkS, ha]
        simp [F_spec_TermOk_L0, q1, q2, q3, hE, ha, e, eqI]
    · have k0' : (kd == 0) = false := beq_eq_false_iff_ne.2 k0
      by_cases ha : a = 0
      · subst ha
        by_cases k1 : kd = 1
        · subst k1
          by_cases hp1 : 1 ≤ p
          · have e : mkS m p (1, 0) = some p := by simp [mkS, hp1]
            simp [F_spec_TermOk_L0, q1, q2, q3, hE, hp1, ihb, e, eqI]
          · have e : mkS m p (1, 0) = none := by simp [mkS, hp1]
            simp [F_spec_TermOk_L0, q1, q2, q3, hE, hp1, e, eqI]
        · have k1' : (kd == 1) = false := beq_eq_false_iff_ne.2 k1
          by_cases hp1 : 2 ≤ p
          · have ihc := ih (k + 1) (p - 1) q4 q5 q6 (by omega) (by omega)
            by_cases k2 : kd = 2
            · subst k2
              have e : mkS m p (2, 0) = some (p - 1) := by simp [mkS, hp1]
              simp [F_spec_TermOk_L0, q1, q2, q3, hE, hp1, w2, ihc, e, eqI]
            · have k2' : (kd == 2) = false := beq_eq_false_iff_ne.2 k2
              by_cases k3 : kd = 3
              · subst k3
                have e : mkS m p (3, 0) = some (p - 1) := by simp [mkS, hp1]
                simp [F_spec_TermOk_L0, q1, q2, q3, hE, hp1, w2, ihc, e, eqI]
              · have k3' : (kd == 3) = false := beq_eq_false_iff_ne.2 k3
                have e : mkS m p (kd, 0) = none := by simp [mkS, k0, k1, k2, k3]
                simp [F_spec_TermOk_L0, q1, q2, q3, hE, k0', k1', k2', k3', k0, k1, k2, k3, hp1, e, eqI]
          · have e : mkS m p (kd, 0) = none := by simp [mkS, k0, k1, hp1]
            by_cases k2 : kd = 2
            · subst k2
              simp [F_spec_TermOk_L0, q1, q2, q3, hE, hp1, e, eqI]
            · have k2' : (kd == 2) = false := beq_eq_false_iff_ne.2 k2
              by_cases k3 : kd = 3
              · subst k3
                simp [F_spec_TermOk_L0, q1, q2, q3, hE, hp1, e, eqI]
              · have k3' : (kd == 3) = false := beq_eq_false_iff_ne.2 k3
                simp [F_spec_TermOk_L0, q1, q2, q3, hE, k0', k1', k2', k3', k0, k1, k2, k3, hp1, e, eqI]
      · have e : mkS m p (kd, a) = none := by simp [mkS, k0, ha]
        have ha' : (a == 0) = false := beq_eq_false_iff_ne.2 ha
        have q : ∀ c : Int, eqI [.i kd, .i a] [.i c, .i 0] = some false := by
          intro c
          by_cases h : kd = c <;> simp [eqI, h, ha]
        simp [F_spec_TermOk_L0, q1, q2, q3, hE, k0', k0, e, q]
theorem c_spec_TermOk (m : Int) (ts : List T) (hb : (ts.length : Int) < 1099511627776) : call lf n_spec_TermOk [.i m, .sl 0 (ts.map e2)] = some (.b (tmOk m ts), []) := by
  rw [call_k lf n_spec_TermOk _ (F := F_spec_TermOk) rfl rfl]
  have L := l_spec_TermOk m ts.length hb (ts.map e2) (by simp) ts 0 0 (by omega) (by simp) (by simp) (by omega) (by omega)
  have em : nOk m = decide (1 ≤ m ∧ m ≤ 5) := rfl
  cases hr : runM m 0 ts with
  | none =>
    rw [hr] at L
    have e : tmOk m ts = false := by simp [tmOk, hr]
    simp [F_spec_TermOk, L, e]
  | some q =>
    rw [hr] at L
    cases h1 : decide (1 ≤ m ∧ m ≤ 5) with
    | false =>
      have e : tmOk m ts = false := by simp [tmOk, em, h1]
      simp [F_spec_TermOk, c_spec_l1In, L, h1, e]
    | true =>
      by_cases hq : q = 1
      · subst hq
        have e : tmOk m ts = decide ((ts.length : Int) ≤ 13) := by rw [tmOk, em, h1, hr]; simp
        simp [F_spec_TermOk, c_spec_l1In, L, h1, e]
      · have hq' : (q == 1) = false := beq_eq_false_iff_ne.2 hq
        have e : tmOk m ts = false := by rw [tmOk, em, h1, hr]; simp [hq]
        simp [F_spec_TermOk, c_spec_l1In, L, h1, hq', e]

/-! ### letters -/
theorem runM_tests {m : Int} : ∀ {ts : List T} {p q : Int}, runM m p ts = some q → ∀ t ∈ ts, t.1 = 0 → 0 ≤ t.2 ∧ t.2 < m
  | [], _, _, _, t, ht, _ => by cases ht
  | u :: r, p, q, h, t, ht, h0 => by
    simp only [runM] at h
    cases hm : mkS m p u with
    | none => rw [hm] at h; cases h
    | some p1 =>
      rw [hm] at h
      rcases List.mem_cons.1 ht with rfl | ht
      · simp only [mkS, if_pos h0] at hm
        split at hm
        · assumption
        · cases hm
      · exact runM_tests h t ht h0
theorem tmOk_iff {m : Int} {ts : List T} : tmOk m ts = true ↔ (1 ≤ m ∧ m ≤ 5) ∧ (ts.length : Int) ≤ 13 ∧ runM m 0 ts = some 1 := by
  rw [tmOk, Bool.and_eq_true, Bool.and_eq_true, nOk_iff, decide_eq_true_eq, beq_iff_eq, and_assoc]
def letF (a : Int) (t : T) : Int := if t.1 = 0 then orI a (2 ^ t.2.toNat) else a
def lett (ts : List T) : Int := ts.foldl letF 0
def letOf (m : Int) (ts : List T) : Int := if tmOk m ts then lett ts else -1
end Zz
