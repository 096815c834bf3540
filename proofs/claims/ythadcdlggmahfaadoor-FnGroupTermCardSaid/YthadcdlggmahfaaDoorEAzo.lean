/- What the functions answer, as equations: EA. No conditions. -/
import Derived.Test.YthadcdlggmahfaaDoorIrzo
import Derived.Test.YthadcdlggmahfaaDoorE0
import Derived.Test.YthadcdlggmahfaaDoorLgE
set_option linter.unusedSectionVars false
set_option linter.unusedVariables false
set_option linter.unusedSimpArgs false
namespace Zz
open Go.Lg Md
set_option linter.unusedSimpArgs false
set_option linter.unusedVariables false
attribute [local simp] ia_mv ia_newnil ia_pick ia_bin ia_eqb ia_eqs ia_un ia_len ia_lens ia_chk ia_fld ia_fldv ia_idxa ia_idx ia_load ia_store ia_slice ia_slices ia_make ia_alloc ia_box ia_build ia_bslice ia_app ia_b2i ia_i2b ia_i2i ia_same ia_b2s ia_s2b ia_ext ia_mm ia_idxp ia_calld ia_mkfn ia_i2r ia_r2s ia_call pt_nil pt_cons mi_nil mi_cons md_bslice md_mv md_newnil md_pick md_bin md_eqb md_un md_len md_lens md_fld md_fldv md_idxa md_idx md_load md_store md_slice md_slices md_make md_alloc md_box md_build md_app md_conv md_ext md_call md_calld md_callg md_mkfn md_mm md_idxp md_eqn md_eqs md_chk tg_bslice tg_mv tg_newnil tg_pick tg_bin tg_eqb tg_un tg_len tg_lens tg_fld tg_fldv tg_idxa tg_idx tg_load tg_store tg_slice tg_slices tg_make tg_alloc tg_box tg_build tg_app tg_conv tg_ext tg_call tg_calld tg_callg tg_mkfn tg_mm tg_idxp tg_eqn tg_eqs tg_chk rp_eq ro_eq ifP_t ifP_f np_def ng1_nil ng2_nil ng_gate ng_gen tgA_t tgA_0 tgA_1 tgA_2 aC_nil aC_c aC_t nxP_some nxP_none rq_nil rq_gen rq_gate nxR_some nxR_none ru_nil ru_gen ru_gate pl_none pl_some gt_nil gt_t gt_c di_some di_none an_nil an_cons nxG_some nxG_none rg_nil rg_gen rg_gate oldO_some oa_nil oa_i oa_y oa_b oa_s oa_st oa_sl oa_own oa_oad oa_nl al_nil al_cons al_i al_y al_b al_s al_st al_sl nxF_some nxF_none rf_nil rf_gen rf_gate hk_newnil hk_make hk_alloc hk_box hk_build hk_bslice hk_call hk_store hk_app hk_appn em_cel mm_cel ok_cel ov_cel so_cel il_cel oi_cel oj_cel ol_cel nm_cel hk_appc ef_bslice5 ef_app_cel ks_shut shu_own shc_none shc_cel cl_nil cl_cons ai_nil ai_cons il_i il_y il_b il_s il_st il_sl il_own il_adr il_oad il_ref il_fr il_tup il_nil il_np il_und il_dead ol_adr ol_b ol_dead ol_e ol_fn ol_fr ol_i ol_nil ol_np ol_oad ol_own ol_q ol_r ol_ref ol_s ol_sl ol_st ol_tup ol_und ol_w ol_y oj_e oj_i oj_y oj_b oj_s oj_st oj_sl oj_own oj_adr oj_oad oj_ref oj_fr oj_tup oj_nil oj_np oj_und oj_dead oj_w oj_q oj_r oj_fn oi_e oi_i oi_y oi_b oi_s oi_st oi_sl oi_own oi_adr oi_oad oi_ref oi_fr oi_tup oi_nil oi_np oi_und oi_dead as_nil as_cons ao_nil ao_cons av_i av_y av_b av_s av_st av_sl av_own av_adr av_oad av_ref av_fr av_tup av_nil av_np av_und av_dead pro_cons ghK_some ks_promote ks_freeze frz_own ks_rename ren_own dropO adoptP newP wholeP cutP allOldL ex_skip ex_ret ex_exit ks_region ks_seq ks_cond ks_block seqK_n seqK_e seqK_r regK_some condK_t condK_f blkK_n blkK_r blkK_e endK_n endK_r rr_false rr_true rd_free mo_nil mo_cons drK_some drK_none nxW_some nxW_none rw_nil rw_gen rw_gate ak_newnil ak_make ak_alloc ak_box ak_build ak_bslice ak_call ak_store ak_app iw_mm iw_eqn iw_idxp ef_callg cgK_some gv_e gv_own gv_i gv_sl gv_st gv_b gv_nil gvK_some gvO_some iw_callg ia_callg ak_callg hk_callg is_mv is_newnil is_pick is_bin is_eqb is_eqs is_un is_len is_lens is_chk is_fld is_fldv is_idxa is_idx is_load is_slice is_slices is_make is_alloc is_box is_build is_bslice is_app is_conv is_ext is_call is_calld is_callg is_mkfn is_mm is_idxp is_eqn is_store rt_nil rt_gen rt_gate nxT_some nxT_none ef_eqn_nil ef_eqn_sl ef_eqn_own ia_eqn ef_mmx ef_mmn ef_idxp nxD_some nxD_none ov_i ov_y ov_b ov_s ov_st ov_sl ov_own ov_oad ov_adr ov_nil ov_np ov_und ov_dead ov_tup oldN_some oldN_nil oldN_none so_none so_i so_y so_b so_s so_st so_sl so_adr so_nil so_np so_und so_dead anyM_nil anyM_t anyM_c so_own so_oad rd_nil rd_gen rd_mv rd_gate iw_mv iw_newnil iw_pick iw_bin iw_eqb iw_eqs iw_un iw_len iw_lens iw_chk iw_fld iw_fldv iw_idxa iw_idx iw_load iw_store iw_slice iw_slices iw_make iw_alloc iw_box iw_build iw_bslice iw_app iw_b2i iw_i2b iw_i2i iw_same iw_b2s iw_s2b iw_ext iw_call nm_i nm_y nm_b nm_s nm_st nm_sl nm_own nm_oad nm_adr nm_nil nm_np nm_und nm_dead nm_tup rl_nil rl_gate rl_mv rl_gen opv_t opv_c nx_some nx_none gate_tt gate_tf gate_ft gate_ff gate_u fr_ap em_nil em_i em_y em_b em_s em_st em_sl em_own em_adr em_oad em_ref em_nl em_np em_und em_dead em_tup0 em_tup_i em_tup_b em_tup_s em_tup_sl em_tup_st em_tup_np em_tup_own em_tup_oad mm_i mm_y mm_b mm_s mm_st mm_sl mm_own mm_oad mm_adr mm_nil mm_np mm_und mm_dead ef_mv ef_newnil ef_pickt ef_pickf ef_bin ef_eqb ef_eqs ef_un ef_lens ef_len_sl ef_len_own ef_len_nil ef_chk_adr ef_chk_oad ef_fld_adr ef_fld_oad ef_fldv idxR_some ef_idxa_sl ef_idxa_own ef_idx ef_load_adr_st ef_load_adr_i ef_load_adr_y ef_load_adr_b ef_load_adr_s ef_load_adr_sl atN_nil atN_zero atN_succ ef_load_oad ef_store ef_slice ef_slices ef_make ef_alloc ef_box ef_build ef_bslice ef_app_own ef_app_nil ef_b2i ef_i2b ef_i2i ef_same ef_ext ret1 ret2_some calL_some ef_call retC_i retC_y retC_b retC_s retC_st retC_sl retC_np retC_fr retC_ref retC_tup rk_nil rk_i rk_y rk_b rk_s rk_st rk_sl rk_own rk_oad rk_nl ok_nil ok_i ok_y ok_b ok_s ok_st ok_sl ok_own ok_oad ok_nl lo_nil lo_i lo_y lo_b lo_s lo_st lo_sl lo_own lo_oad lo_nl pr_nil pr_i pr_y pr_b pr_s pr_st pr_sl pr_own pr_nl pr_oad nr_i nr_y nr_b nr_s nr_st nr_sl nr_fr nr_np nr_tup ng_i ng_b ng_s ng_fr ng_nil resV effP_eff binD bi_add bi_sub bi_mul bi_quo bi_rem bi_eql bi_neq bi_lss bi_leq bi_gtr bi_geq bi_shl bi_shr bi_and bi_or bi_xor bi_andNot binY binS unD look put putD LS.get LS.drop killE sweep lookO putO dropO enter leave giveBackL giveBack outs lendArgs lendArg newOuts takeIn takeInL lendL DV.lend adoptL DV.adopt elems apartKs part DV.cells unpart settle settleL over mkId szId fillP fillE tk_e2 tk_i tk_y lt_e2 lt_i lt_y lend_rep al_e2 al_is al_ys al_rep al_app lend_app adopt_app new_app lend_e2 lend_i lend_y adopt_e2 adopt_i adopt_y new_e2 new_i allNewL DV.allNew bounds sliceD sliceS em_w em_q em_r em_fn em_tup_w em_tup_q em_tup_r mm_w mm_q mm_r mm_fn ef_load_adr_w ef_load_adr_q ef_load_adr_r retC_w retC_q retC_r rk_w rk_q rk_r rk_fn ok_w ok_q ok_r ok_fn lo_w lo_q lo_r lo_fn pr_w pr_q pr_r pr_fn nr_w nr_q nr_r ng_w ng_q ng_r oa_w oa_q oa_r oa_fn al_w al_q al_r al_fn ov_w ov_q ov_r ov_fn so_w so_q so_r so_fn il_w il_q il_r il_fn oi_w oi_q oi_r oi_fn av_w av_q av_r av_fn nm_w nm_q nm_r nm_fn ef_i2r ef_r2s ef_mkfn ef_idxp_adr ef_calld capsOk DV.cell List.all_cons List.all_nil rk_own_t lo_own_t lk_f lk_t pr_own_t mutB ak_calld hk_calld iw_calld iw_mkfn iw_i2r iw_r2s bw_and bw_or bw_xor bw_andNot bw_eql bw_neq sw_shl sw_shr sq_shl gEnv_nil rk_adr ok_adr lo_adr pr_adr oa_adr capL capArg DV.cap ak_mkfn hk_mkfn ef_callm gf_ap ga_nil ga_cons tgv_own gk_e gk_giv gk_i gk_y gk_b gk_s gk_w gk_q gk_r gk_fn gk_st gk_sl gk_own gk_oad gk_adr gk_nl gk_np rk_giv ok_giv lo_giv pr_giv oa_giv iw_callm hk_callm ak_callm is_callm ia_callm tg_callm md_callm ef_i2q ef_q2i ef_q2q iw_i2q iw_q2i iw_q2q ia_i2q ia_q2i ia_q2q bq_and bq_add bq_shr sq_shr tgv_nil gk_ref rk_ref ok_ref lo_ref pr_ref oa_ref retC_fn nr_fn ef_load_adr_fn ks_close cls_oad
attribute [local congr] ifP_congr nxP_congr nxR_congr nxT_congr nxG_congr nxF_congr ghK_congr gate_congr nx_congr nxD_congr runL_congr runD_congr eff_congr calL_congr ret2_congr seqK_congr regK_congr condK_congr endK_congr drK_congr nxW_congr
attribute [local simp ↓] nxT_some rt_nil rt_gen rt_gate nxP_some rq_nil rq_gen rq_gate nxR_some ru_nil ru_gen ru_gate nxG_some rg_nil rg_gen rg_gate nxF_some rf_nil rf_gen rf_gate ks_promote ks_freeze frz_own ks_rename ghK_some gate_tt gate_tf gate_ft gate_ff gate_u nx_some nxD_some rl_nil rl_mv rl_gen rl_gate rd_nil rd_mv rd_gen rd_gate rd_free rr_false rr_true drK_some drK_none nxW_some rw_nil rw_gen rw_gate ks_region ks_seq ks_cond ks_block seqK_n seqK_e seqK_r regK_some condK_t condK_f blkK_n blkK_r endK_n endK_r calL_some ret2_some opv_t opv_c
section
theorem c_impl_isWithin (a b c : Int) : call lf n_impl_isWithin [.i a, .i b, .i c] = some (.b (decide (b ≤ a ∧ a ≤ c)), []) := by
  rw [call_k lf n_impl_isWithin _ (F := F_impl_isWithin) rfl rfl]
  by_cases h : b ≤ a <;> simp [F_impl_isWithin, h]
theorem c_spec_l1In (a b c : Int) : call lf n_spec_l1In [.i a, .i b, .i c] = some (.b (decide (b ≤ a ∧ a ≤ c)), []) := by
  rw [call_k lf n_spec_l1In _ (F := F_spec_l1In) rfl rfl]
  by_cases h : b ≤ a <;> simp [F_spec_l1In, h]
theorem c_impl_manyOk (a : Int) : call lf n_impl_manyOk [.i a] = some (.b (nOk a), []) := by
  rw [call_k lf n_impl_manyOk _ (F := F_impl_manyOk) rfl rfl]
  simp [F_impl_manyOk, c_impl_isWithin, nOk]

theorem l_impl_TestsOk (n : Int) (hb : n < 1099511627776) (es : List DV) (rest : List T) : ∀ k : Int, 0 ≤ k → k + (rest.map e2).length = n → es.drop k.toNat = rest.map e2 →
    ex lf F_impl_TestsOk_W0 ⟨[(9, .sl 0 es), (10, .i n), (11, .i k)], []⟩ =
    if rest.all tOk then some (.exit 0, ⟨[(9, .sl 0 es), (10, .i n), (11, .i n)], []⟩) else some (.ret, ⟨[(2, .b false)], []⟩) := by
  induction rest with
  | nil =>
    intro k h0 hn hd
    rw [w_impl_TestsOk_0]
    have hk : k = n := by simpa using hn
    simp [F_impl_TestsOk_L0, hk]
  | cons t rest ih =>
    intro k h0 hn hd
    obtain ⟨q1, q2, q3, q4, q5, q6⟩ := stp h0 hn hb hd
    have ih := ih (k + 1) q4 q5 q6
    simp only [e2] at q2
    rw [w_impl_TestsOk_0]
    have xt := tOk_def t
    cases x1 : decide (1 ≤ t.1 ∧ t.1 ≤ 9) <;> cases x2 : decide (1 ≤ t.2 ∧ t.2 ≤ 5) <;> rw [x1, x2] at xt <;> simp [F_impl_TestsOk_L0, q1, q2, q3, c_impl_isWithin, ih, xt, x1, x2, -List.all_eq_true]
theorem c_impl_TestsOk (ts : List T) (hb : (ts.length : Int) < 1099511627776) : call lf n_impl_TestsOk [.sl 0 (ts.map e2)] = some (.b (tsOk ts), []) := by
  rw [call_k lf n_impl_TestsOk _ (F := F_impl_TestsOk) rfl rfl]
  have L := l_impl_TestsOk ts.length hb (ts.map e2) ts 0 (by omega) (by simp) (by simp)
  cases h1 : nOk ts.length <;> cases h2 : ts.all tOk <;> simp [F_impl_TestsOk, c_impl_manyOk, L, h1, h2, tsOk]

theorem c_impl_statesOf (a : Int) (h0 : 0 ≤ a) (h5 : a ≤ 40) : call lf n_impl_statesOf [.i a] = some (.i (2 ^ a.toNat), []) := by
  rw [call_k lf n_impl_statesOf _ (F := F_impl_statesOf) rfl rfl]
  have h1 : ¬ a < 0 := by omega
  simp [F_impl_statesOf, h1, shl1 h0 h5]
theorem nOk_iff {a : Int} : nOk a = true ↔ 1 ≤ a ∧ a ≤ 5 := by simp [nOk]
theorem c_impl_StateOk (a b : Int) : call lf n_impl_StateOk [.i a, .i b] = some (.b (stOk a b), []) := by
  rw [call_k lf n_impl_StateOk _ (F := F_impl_StateOk) rfl rfl]
  cases h : nOk a with
  | true =>
    have h' := nOk_iff.1 h
    have p := pow2_le (k := a) (by omega) (by omega)
    have w := wr_id (n := 2 ^ a.toNat - 1) (by omega) (by omega)
    have e : decide (0 ≤ b ∧ b ≤ 2 ^ a.toNat - 1) = decide (0 ≤ b ∧ b < 2 ^ a.toNat) := decide_eq_decide.2 (by omega)
    simp [F_impl_StateOk, c_impl_manyOk, c_impl_isWithin, h, stOk, c_impl_statesOf a (by omega) (by omega), w, e]
  | false => simp [F_impl_StateOk, c_impl_manyOk, c_impl_isWithin, h, stOk]
theorem tsOk_iff {ts : List T} : tsOk ts = true ↔ (1 ≤ (ts.length : Int) ∧ (ts.length : Int) ≤ 5) ∧ ts.all tOk = true := by
  rw [tsOk, Bool.and_eq_true, nOk_iff]
theorem stOk_iff {n s : Int} : stOk n s = true ↔ (1 ≤ n ∧ n ≤ 5) ∧ 0 ≤ s ∧ s < 2 ^ n.toNat := by
  rw [stOk, Bool.and_eq_true, nOk_iff, decide_eq_true_eq]
end
section
theorem p2 {ts : List T} (h : tsOk ts = true) : 1 ≤ (2 : Nat) ^ ts.length ∧ (2 : Nat) ^ ts.length ≤ 32 ∧ ((2 ^ ts.length : Nat) : Int) = 2 ^ ts.length := by
  have h' := tsOk_iff.1 h
  have a : (2 : Nat) ^ ts.length ≤ 2 ^ 5 := Nat.pow_le_pow_right (by omega) (by omega)
  exact ⟨Nat.pow_pos (by omega), by omega, by simp⟩
theorem at_e2 {ts : List T} {i : Nat} (hi : i < ts.length) : ∃ t, ts[i]? = some t ∧ t ∈ ts ∧ atI (ts.map e2) i = some (.st [.i t.1, .i t.2]) ∧ ts.take (i + 1) = ts.take i ++ [t] := by
  refine ⟨ts[i], List.getElem?_eq_getElem hi, List.getElem_mem hi, ?_, List.take_succ_eq_append_getElem hi⟩
  simp [atI, hi, e2]
end
section
/-- a mark read with p parts before it -/
def mkS (m p : Int) (t : T) : Option Int :=
  if t.1 = 0 then (if 0 ≤ t.2 ∧ t.2 < m then some (p + 1) else none)
  else if t.1 = 1 then (if t.2 = 0 ∧ 1 ≤ p then some p else none)
  else if t.1 = 2 ∨ t.1 = 3 then (if t.2 = 0 ∧ 2 ≤ p then some (p - 1) else none)
  else none
def runM (m : Int) : Int → List T → Option Int
  | p, [] => some p
  | p, t :: r => match mkS m p t with
    | some q => runM m q r
    | none => none
def tmOk (m : Int) (ts : List T) : Bool := nOk m && decide ((ts.length : Int) ≤ 13) && runM m 0 ts == some 1
theorem c_impl_partsTaken (k : Int) : call lf n_impl_partsTaken [.i k] = some (.i (if k = 0 then 0 else if k = 1 then 1 else 2), []) := by
  rw [call_k lf n_impl_partsTaken _ (F := F_impl_partsTaken) rfl rfl]
  by_cases h0 : k = 0
  · simp [F_impl_partsTaken, h0]
  · have h0' : (k == 0) = false := beq_eq_false_iff_ne.2 h0
    by_cases h1 : k = 1
    · simp [F_impl_partsTaken, h1]
    · have h1' : (k == 1) = false := beq_eq_false_iff_ne.2 h1
      simp [F_impl_partsTaken, h0, h1, h0', h1']
theorem c_impl_markOk (m k a : Int) (hm : nOk m = true) : call lf n_impl_markOk [.i m, .st [.i k, .i a]] = some (.b (if k = 0 then decide (0 ≤ a ∧ a < m) else decide ((1 ≤ k ∧ k ≤ 3) ∧ a = 0)), []) := by
  rw [call_k lf n_impl_markOk _ (F := F_impl_markOk) rfl rfl]
  have hm' := nOk_iff.1 hm
  have w : wr (m - 1) = m - 1 := wr_id (by omega) (by omega)
  by_cases h0 : k = 0
  · have e : decide (0 ≤ a ∧ a ≤ m - 1) = decide (0 ≤ a ∧ a < m) := decide_eq_decide.2 (by omega)
    simp [F_impl_markOk, h0, w, c_impl_isWithin, e]
  · have h0' : (k == 0) = false := beq_eq_false_iff_ne.2 h0
    by_cases h1 : 1 ≤ k ∧ k ≤ 3
    · have d1 : decide (1 ≤ k ∧ k ≤ 3) = true := decide_eq_true h1
      have e : decide ((1 ≤ k ∧ k ≤ 3) ∧ a = 0) = (a == 0) := by
        by_cases ha : a = 0
        · simp [ha, h1]
        · have ha' : (a == 0) = false := beq_eq_false_iff_ne.2 ha
          rw [ha']; simp [ha]
      simp [F_impl_markOk, h0, h0', c_impl_isWithin, d1, e]
    · have d1 : decide (1 ≤ k ∧ k ≤ 3) = false := decide_eq_false h1
      have e : decide ((1 ≤ k ∧ k ≤ 3) ∧ a = 0) = false := decide_eq_false (fun h => h1 h.1)
      simp [F_impl_markOk, h0, h0', c_impl_isWithin, d1, e]
set_option maxHeartbeats 4000000 in
theorem l_impl_TermOk (m : Int) (hm : nOk m = true) (n : Int) (hb : n < 1099511627776) (es : List DV) (rest : List T) : ∀ k p : Int, 0 ≤ k → k + (rest.map e2).length = n → es.drop k.toNat = rest.map e2 → 0 ≤ p → p ≤ k →
    ex lf F_impl_TermOk_W0 ⟨[(0, .i m), (5, .i p), (18, .sl 0 es), (19, .i n), (20, .i k)], []⟩ =
    match runM m p rest with
    | some q => some (.exit 0, ⟨[(0, .i m), (5, .i q), (18, .sl 0 es), (19, .i n), (20, .i n)], []⟩)
    | none => some (.ret, ⟨[(4, .b false)], []⟩) := by
  induction rest with
  | nil =>
    intro k p h0 hn hd _ _
    rw [w_impl_TermOk_0]
    have hk : k = n := by simpa using hn
    simp [F_impl_TermOk_L0, hk, runM]
  | cons t rest ih =>
    intro k p h0 hn hd hp hpk
    obtain ⟨q1, q2, q3, q4, q5, q6⟩ := stp h0 hn hb hd
    have mk := c_impl_markOk m t.1 t.2 hm
    simp only [e2] at q2
    have nb : k ≤ 1099511627776 := by omega
    have w0 : wr (1 : Int) = 1 := wr_id (by omega) (by omega)
    have w1 : wr (p + 1) = p + 1 := wr_id (by omega) (by omega)
    have w2 : wr p = p := wr_id (by omega) (by omega)
    have w3 : wr (-1 : Int) = -1 := wr_id (by omega) (by omega)
    have w4 : wr (p + -1) = p + -1 := wr_id (by omega) (by omega)
    have w5 : wr (0 : Int) = 0 := wr_id (by omega) (by omega)
    obtain ⟨kd, a⟩ := t
    simp only at mk q2
    rw [w_impl_TermOk_0, runM]
    have iha := ih (k + 1) (p + 1) q4 q5 q6 (by omega) (by omega)
    have ihb := ih (k + 1) p q4 q5 q6 (by omega) (by omega)
    by_cases k0 : kd = 0
    · subst k0
      by_cases ha : 0 ≤ a ∧ a < m
      · have e : mkS m p (0, a) = some (p + 1) := by simp [mkS, ha]
        have d : decide (0 ≤ a ∧ a < m) = true := decide_eq_true ha
        simp only [if_true, d] at mk
        have np : ¬ p < 0 := by omega
        simp [F_impl_TermOk_L0, q1, q2, q3, mk, c_impl_partsTaken, np, w0, w1, iha, e]
      · have e : mkS m p (0, a) = none := by simp only [mkS, if_true, if_neg ha]
        have d : decide (0 ≤ a ∧ a < m) = false := decide_eq_false ha
        simp only [if_true, d] at mk
        simp [F_impl_TermOk_L0, q1, q2, q3, mk, c_impl_partsTaken, e]
    · rw [if_neg k0] at mk
      by_cases k1 : kd = 1
      · subst k1
        by_cases ha : a = 0
        · subst ha
          by_cases hp1 : 1 ≤ p
          · have e : mkS m p (1, 0) = some p := by simp [mkS, hp1]
            have np : ¬ p < 1 := by omega
            simp at mk
            simp [F_impl_TermOk_L0, q1, q2, q3, mk, c_impl_partsTaken, np, w2, w5, ihb, e]
          · have e : mkS m p (1, 0) = none := by simp [mkS, hp1]
            have np : p < 1 := by omega
            simp at mk
            simp [F_impl_TermOk_L0, q1, q2, q3, mk, c_impl_partsTaken, np, e]
        · have e : mkS m p (1, a) = none := by simp [mkS, ha]
          have d : decide ((1 ≤ (1 : Int) ∧ (1 : Int) ≤ 3) ∧ a = 0) = false := decide_eq_false (fun h => ha h.2)
          rw [d] at mk
          simp [F_impl_TermOk_L0, q1, q2, q3, mk, c_impl_partsTaken, e]
      · by_cases k2 : kd = 2 ∨ kd = 3
        · by_cases ha : a = 0
          · subst ha
            have d : decide ((1 ≤ kd ∧ kd ≤ 3) ∧ (0 : Int) = 0) = true := decide_eq_true ⟨by omega, rfl⟩
            rw [d] at mk
            by_cases hp1 : 2 ≤ p
            · have e : mkS m p (kd, 0) = some (p - 1) := by simp [mkS, k0, k1, k2, hp1]
              have np : ¬ p < 2 := by omega
              have ihc := ih (k + 1) (p - 1) q4 q5 q6 (by omega) (by omega)
              simp only [Int.sub_eq_add_neg] at ihc e
              simp [F_impl_TermOk_L0, q1, q2, q3, mk, c_impl_partsTaken, k0, k1, np, w3, w4, ihc, e]
            · have e : mkS m p (kd, 0) = none := by simp [mkS, k0, k1, k2, hp1]
              have np : p < 2 := by omega
              simp [F_impl_TermOk_L0, q1, q2, q3, mk, c_impl_partsTaken, k0, k1, np, e]
          · have e : mkS m p (kd, a) = none := by simp [mkS, k0, k1, k2, ha]
            have d : decide ((1 ≤ kd ∧ kd ≤ 3) ∧ a = 0) = false := decide_eq_false (fun h => ha h.2)
            rw [d] at mk
            simp [F_impl_TermOk_L0, q1, q2, q3, mk, c_impl_partsTaken, k0, k1, e]
        · have e : mkS m p (kd, a) = none := by simp [mkS, k0, k1, k2]
          have d : decide ((1 ≤ kd ∧ kd ≤ 3) ∧ a = 0) = false := decide_eq_false (fun h => by omega)
          rw [d] at mk
          simp [F_impl_TermOk_L0, q1, q2, q3, mk, c_impl_partsTaken, k0, k1, e]
theorem c_impl_TermOk (m : Int) (ts : List T) (hb : (ts.length : Int) < 1099511627776) : call lf n_impl_TermOk [.i m, .sl 0 (ts.map e2)] = some (.b (tmOk m ts), []) := by
  rw [call_k lf n_impl_TermOk _ (F := F_impl_TermOk) rfl rfl]
  cases h1 : nOk m with
  | false => simp [F_impl_TermOk, c_impl_manyOk, h1, tmOk]
  | true =>
    by_cases h2 : 1 ≤ (ts.length : Int) ∧ (ts.length : Int) ≤ 13
    · have d : decide (1 ≤ (ts.length : Int) ∧ (ts.length : Int) ≤ 13) = true := decide_eq_true h2
      have L := l_impl_TermOk m h1 ts.length hb (ts.map e2) ts 0 0 (by omega) (by simp) (by simp) (by omega) (by omega)
      have d2 : decide ((ts.length : Int) ≤ 13) = true := decide_eq_true h2.2
      cases hr : runM m 0 ts with
      | none =>
        rw [hr] at L
        simp [F_impl_TermOk, c_impl_manyOk, c_impl_isWithin, h1, d, L, tmOk, hr]
      | some q =>
        rw [hr] at L
        have e : tmOk m ts = (q == 1) := by
          rw [tmOk, h1, d2, hr]
          cases hq : q == 1 <;> simp_all
        simp [F_impl_TermOk, c_impl_manyOk, c_impl_isWithin, h1, d, L, e]
    · have d : decide (1 ≤ (ts.length : Int) ∧ (ts.length : Int) ≤ 13) = false := decide_eq_false h2
      have e : tmOk m ts = false := by
        by_cases h3 : (ts.length : Int) ≤ 13
        · have : ts = [] := List.eq_nil_of_length_eq_zero (by omega)
          subst this
          simp [tmOk, runM]
        · simp only [tmOk, decide_eq_false h3, Bool.and_false, Bool.false_and]
      simp [F_impl_TermOk, c_impl_manyOk, c_impl_isWithin, h1, d, e]
theorem runM_tests {m : Int} : ∀ {ts : List T} {p q : Int}, runM m p ts = some q → ∀ t ∈ ts, t.1 = 0 → 0 ≤ t.2 ∧ t.2 < m
  | [], _, _, _, t, ht, _ => by cases ht
  | u :: r, p, q, h, t, ht, h0 => by
    simp only [runM] at h
    cases hm : mkS m p u with
    | none => rw [hm] at h; cases h
    | some p1 =>
      rw [hm] at h
      rcases List.mem_cons.1 ht with rfl | ht
      · simp only [mkS, if_pos h0] at hm
        split at hm
        · assumption
        · cases hm
      · exact runM_tests h t ht h0
theorem tmOk_iff {m : Int} {ts : List T} : tmOk m ts = true ↔ (1 ≤ m ∧ m ≤ 5) ∧ (ts.length : Int) ≤ 13 ∧ runM m 0 ts = some 1 := by
  rw [tmOk, Bool.and_eq_true, Bool.and_eq_true, nOk_iff, decide_eq_true_eq, beq_iff_eq, and_assoc]
def letF (a : Int) (t : T) : Int := if t.1 = 0 then orI a (2 ^ t.2.toNat) else a
def lett (ts : List T) : Int := ts.foldl letF 0
def letOf (m : Int) (ts : List T) : Int := if tmOk m ts then lett ts else -1
theorem l_impl_LettersOf (n : Int) (hb : n < 1099511627776) (es : List DV) (rest : List T) (hr : ∀ t ∈ rest, t.1 = 0 → 0 ≤ t.2 ∧ t.2 < 5) : ∀ k a : Int, 0 ≤ k → k + (rest.map e2).length = n → es.drop k.toNat = rest.map e2 →
    ex lf F_impl_LettersOf_W0 ⟨[(5, .i a), (12, .sl 0 es), (13, .i n), (14, .i k)], []⟩ = some (.exit 0, ⟨[(5, .i (rest.foldl letF a)), (12, .sl 0 es), (13, .i n), (14, .i n)], []⟩) := by
  induction rest with
  | nil =>
    intro k a h0 hn hd
    rw [w_impl_LettersOf_0]
    have hk : k = n := by simpa using hn
    simp [F_impl_LettersOf_L0, hk]
  | cons t rest ih =>
    intro k a h0 hn hd
    obtain ⟨q1, q2, q3, q4, q5, q6⟩ := stp h0 hn hb hd
    simp only [e2] at q2
    have ih := ih (fun u hu => hr u (List.mem_cons_of_mem _ hu)) (k + 1)
    rw [w_impl_LettersOf_0]
    by_cases k0 : t.1 = 0
    · have b := hr t (List.mem_cons_self ..) k0
      have sh := shl1 (k := t.2) b.1 (by omega)
      have n1 : ¬ t.2 < 0 := by omega
      have ih := ih (orI a (2 ^ t.2.toNat)) q4 q5 q6
      simp [F_impl_LettersOf_L0, q1, q2, q3, k0, sh, n1, ih, letF]
    · have k0' : (t.1 == 0) = false := beq_eq_false_iff_ne.2 k0
      have ih := ih a q4 q5 q6
      simp [F_impl_LettersOf_L0, q1, q2, q3, k0, k0', ih, letF]
theorem c_impl_LettersOf (m : Int) (ts : List T) (hb : (ts.length : Int) < 1099511627776) : call lf n_impl_LettersOf [.i m, .sl 0 (ts.map e2)] = some (.i (letOf m ts), []) := by
  rw [call_k lf n_impl_LettersOf _ (F := F_impl_LettersOf) rfl rfl]
  have C := c_impl_TermOk m ts hb
  cases h1 : tmOk m ts with
  | false => simp [F_impl_LettersOf, C, h1, letOf]
  | true =>
    have h1' := tmOk_iff.1 h1
    have L := l_impl_LettersOf ts.length hb (ts.map e2) ts (fun t ht h0 => by have := runM_tests h1'.2.2 t ht h0; omega) 0 0 (by omega) (by simp) (by simp)
    simp [F_impl_LettersOf, C, h1, letOf, L, lett]
end
section
inductive Tm where
  | tst (a : Nat)
  | neg (x : Tm)
  | and (x y : Tm)
  | or (x y : Tm)
def flt : Tm → List T
  | .tst a => [(0, (a : Int))]
  | .neg x => flt x ++ [(1, 0)]
  | .and x y => flt x ++ flt y ++ [(2, 0)]
  | .or x y => flt x ++ flt y ++ [(3, 0)]
def tb (m : Int) : Tm → Prop
  | .tst a => (a : Int) < m
  | .neg x => tb m x
  | .and x y => tb m x ∧ tb m y
  | .or x y => tb m x ∧ tb m y
def ev (s : Nat) : Tm → Bool
  | .tst a => s.testBit a
  | .neg x => !ev s x
  | .and x y => ev s x && ev s y
  | .or x y => ev s x || ev s y
/-- how many parts a mark takes -/
def taken (k : Int) : Nat := if k = 0 then 0 else if k = 1 then 1 else 2
def stepG {P : Type} (mk : T → List P → P) (st : List P) (t : T) : List P := st.take (st.length - taken t.1) ++ [mk t (st.drop (st.length - taken t.1))]
def valG {P : Type} (mk : T → List P → P) : Tm → P
  | .tst a => mk (0, (a : Int)) []
  | .neg x => mk (1, 0) [valG mk x]
  | .and x y => mk (2, 0) [valG mk x, valG mk y]
  | .or x y => mk (3, 0) [valG mk x, valG mk y]
theorem stepG_0 {P : Type} (mk : T → List P → P) (st : List P) (a : Int) : stepG mk st (0, a) = st ++ [mk (0, a) []] := by
  simp [stepG, taken]
theorem stepG_1 {P : Type} (mk : T → List P → P) (st : List P) (x : P) (a : Int) : stepG mk (st ++ [x]) (1, a) = st ++ [mk (1, a) [x]] := by
  simp [stepG, taken]
theorem stepG_2 {P : Type} (mk : T → List P → P) (st : List P) (x y : P) (k a : Int) (h : k = 2 ∨ k = 3) : stepG mk (st ++ [x, y]) (k, a) = st ++ [mk (k, a) [x, y]] := by
  have e : taken k = 2 := by unfold taken; rw [if_neg (by omega), if_neg (by omega)]
  simp [stepG, e]
theorem last1 {α : Type} {l : List α} (h : 1 ≤ l.length) : ∃ r x, l = r ++ [x] := by
  have := List.dropLast_concat_getLast (l := l) (by intro e; rw [e] at h; simp at h)
  exact ⟨_, _, this.symm⟩
theorem last2 {α : Type} {l : List α} (h : 2 ≤ l.length) : ∃ r x y, l = r ++ [x, y] := by
  obtain ⟨r, y, rfl⟩ := last1 (by omega : 1 ≤ l.length)
  obtain ⟨r', x, rfl⟩ := last1 (by simp at h; omega : 1 ≤ r.length)
  exact ⟨r', x, y, by simp⟩
theorem forest {m : Int} : ∀ {ts : List T} {p q : Int}, runM m p ts = some q → ∀ F : List Tm, (F.length : Int) = p → (∀ x ∈ F, tb m x) →
    ∃ F' : List Tm, (F'.length : Int) = q ∧ (∀ x ∈ F', tb m x) ∧ F'.flatMap flt = F.flatMap flt ++ ts ∧ ∀ (P : Type) (mk : T → List P → P), ts.foldl (stepG mk) (F.map (valG mk)) = F'.map (valG mk)
  | [], p, q, h, F, hl, hb => by
    simp only [runM, Option.some.injEq] at h
    exact ⟨F, by omega, hb, by simp, fun P mk => rfl⟩
  | t :: ts, p, q, h, F, hl, hb => by
    simp only [runM] at h
    have go : ∀ (G : List Tm), runM m (G.length : Int) ts = some q → (∀ x ∈ G, tb m x) → G.flatMap flt = F.flatMap flt ++ [t] → (∀ (P : Type) (mk : T → List P → P), stepG mk (F.map (valG mk)) t = G.map (valG mk)) →
        ∃ F' : List Tm, (F'.length : Int) = q ∧ (∀ x ∈ F', tb m x) ∧ F'.flatMap flt = F.flatMap flt ++ (t :: ts) ∧ ∀ (P : Type) (mk : T → List P → P), (t :: ts).foldl (stepG mk) (F.map (valG mk)) = F'.map (valG mk) := by
      intro G h1 h2 h3 h4
      obtain ⟨F', q1, q2, q3, q4⟩ := forest h1 G rfl h2
      refine ⟨F', q1, q2, by rw [q3, h3]; simp, fun P mk => ?_⟩
      rw [List.foldl_cons, h4, q4]
    obtain ⟨k, a⟩ := t
    cases hm : mkS m p (k, a) with
    | none => rw [hm] at h; cases h
    | some p1 =>
      rw [hm] at h
      simp only at h
      unfold mkS at hm
      simp only at hm
      split at hm
      · rename_i hk
        subst hk
        split at hm
        · rename_i ha
          injection hm with hm
          obtain ⟨n, rfl⟩ := Int.eq_ofNat_of_zero_le ha.1
          refine go (F ++ [.tst n]) (by rw [show (((F ++ [Tm.tst n]).length : Nat) : Int) = p1 by simp; omega]; exact h) (fun x hx => ?_) (by simp [flt]) (fun P mk => by rw [stepG_0]; simp [valG])
          rcases List.mem_append.1 hx with h1 | h1
          · exact hb x h1
          · simp only [List.mem_singleton] at h1; subst h1; exact ha.2
        · cases hm
      · split at hm
        · rename_i _ hk
          subst hk
          split at hm
          · rename_i ha
            injection hm with hm
            obtain ⟨r, x, rfl⟩ := last1 (l := F) (by omega)
            have ha0 := ha.1
            subst ha0
            refine go (r ++ [.neg x]) (by rw [show (((r ++ [Tm.neg x]).length : Nat) : Int) = p1 by simp at hl ⊢; omega]; exact h) (fun y hy => ?_) (by simp [flt]) (fun P mk => by rw [List.map_append]; simp only [List.map_cons, List.map_nil]; rw [stepG_1]; simp [valG])
            rcases List.mem_append.1 hy with h1 | h1
            · exact hb y (List.mem_append_left _ h1)
            · simp only [List.mem_singleton] at h1; subst h1; exact hb x (by simp)
          · cases hm
        · split at hm
          · rename_i _ _ hk
            split at hm
            · rename_i ha
              injection hm with hm
              obtain ⟨r, x, y, rfl⟩ := last2 (l := F) (by omega)
              have ha0 := ha.1
              subst ha0
              have hx := hb x (by simp)
              have hy := hb y (by simp)
              rcases hk with rfl | rfl
              · refine go (r ++ [.and x y]) (by rw [show (((r ++ [Tm.and x y]).length : Nat) : Int) = p1 by simp at hl ⊢; omega]; exact h) (fun z hz => ?_) (by simp [flt]) (fun P mk => by rw [List.map_append]; simp only [List.map_cons, List.map_nil]; rw [stepG_2 _ _ _ _ _ _ (.inl rfl)]; simp [valG])
                rcases List.mem_append.1 hz with h1 | h1
                · exact hb z (List.mem_append_left _ h1)
                · simp only [List.mem_singleton] at h1; subst h1; exact ⟨hx, hy⟩
              · refine go (r ++ [.or x y]) (by rw [show (((r ++ [Tm.or x y]).length : Nat) : Int) = p1 by simp at hl ⊢; omega]; exact h) (fun z hz => ?_) (by simp [flt]) (fun P mk => by rw [List.map_append]; simp only [List.map_cons, List.map_nil]; rw [stepG_2 _ _ _ _ _ _ (.inr rfl)]; simp [valG])
                rcases List.mem_append.1 hz with h1 | h1
                · exact hb z (List.mem_append_left _ h1)
                · simp only [List.mem_singleton] at h1; subst h1; exact ⟨hx, hy⟩
            · cases hm
          · cases hm
theorem tm_tree {m : Int} {ts : List T} (h : tmOk m ts = true) : ∃ x, tb m x ∧ flt x = ts ∧ ∀ (P : Type) (mk : T → List P → P), ts.foldl (stepG mk) [] = [valG mk x] := by
  obtain ⟨_, _, h3⟩ := tmOk_iff.1 h
  obtain ⟨F, q1, q2, q3, q4⟩ := forest h3 [] rfl (by simp)
  match F, q1 with
  | [x], _ => exact ⟨x, q2 x (by simp), by simpa using q3, fun P mk => by simpa using q4 P mk⟩

def yesW (a : Nat) : BitVec 32 := match a with
  | 0 => 2863311530#32
  | 1 => 3435973836#32
  | 2 => 4042322160#32
  | 3 => 4278255360#32
  | _ => 4294901760#32
def mkW (t : T) (ps : List (BitVec 32)) : BitVec 32 :=
  if t.1 = 0 then yesW t.2.toNat else if t.1 = 1 then ~~~(ps.getD 0 0) else if t.1 = 2 then ps.getD 0 0 &&& ps.getD 1 0 else ps.getD 0 0 ||| ps.getD 1 0
theorem yes_bit : ∀ (a : Fin 5) (s : Fin 32), (yesW a.val).getLsbD s.val = s.val.testBit a.val := by decide +kernel
theorem val_bit {m : Int} (hm : m ≤ 5) : ∀ {x : Tm}, tb m x → ∀ {s : Nat}, s < 32 → (valG mkW x).getLsbD s = ev s x
  | .tst a, h, s, hs => by
    have ha : a < 5 := by have : (a : Int) < m := h; omega
    have := yes_bit ⟨a, ha⟩ ⟨s, hs⟩
    simpa [valG, mkW, ev] using this
  | .neg x, h, s, hs => by
    have ih := val_bit hm (x := x) h hs
    have e : valG mkW (.neg x) = ~~~(valG mkW x) := by simp [valG, mkW]
    rw [e, BitVec.getLsbD_not, ih]
    simp [hs, ev]
  | .and x y, h, s, hs => by
    have i1 := val_bit hm (x := x) h.1 hs
    have i2 := val_bit hm (x := y) h.2 hs
    simp [valG, mkW, ev, i1, i2]
  | .or x y, h, s, hs => by
    have i1 := val_bit hm (x := x) h.1 hs
    have i2 := val_bit hm (x := y) h.2 hs
    simp [valG, mkW, ev, i1, i2]
def tsW (ts : List T) : BitVec 32 := (ts.foldl (stepG mkW) []).headD 0
/-- the value of a term in a state -/
def tv (ts : List T) (s : Nat) : Bool := (tsW ts).getLsbD s
theorem tv_tree {m : Int} {ts : List T} (h : tmOk m ts = true) : ∃ x, tb m x ∧ flt x = ts ∧ ts.foldl (stepG mkW) [] = [tsW ts] ∧ ∀ s, s < 32 → tv ts s = ev s x := by
  obtain ⟨h1, _, _⟩ := tmOk_iff.1 h
  obtain ⟨x, b, f, g⟩ := tm_tree h
  have e : tsW ts = valG mkW x := by unfold tsW; rw [g]; rfl
  exact ⟨x, b, f, by rw [g, e], fun s hs => by unfold tv; rw [e]; exact val_bit h1.2 b hs⟩
end
section
theorem xor_bound {a b : Int} (h1 : 0 ≤ a) (h2 : a < 4611686018427387904) (h3 : 0 ≤ b) (h4 : b < 4611686018427387904) : 0 ≤ xorI a b ∧ xorI a b < 4611686018427387904 := by
  have e : (BitVec.ofInt 64 a ^^^ BitVec.ofInt 64 b).toNat = a.toNat ^^^ b.toNat := by
    simp only [BitVec.toNat_xor, BitVec.toNat_ofInt]
    congr 1 <;> omega
  have k : a.toNat ^^^ b.toNat < 2 ^ 62 := Nat.xor_lt_two_pow (by omega) (by omega)
  unfold xorI
  rw [e, wr_id (by omega) (by omega)]
  omega
def hs (bs : List Nat) (p : Int) : Int := (bs.getD (p.tmod bs.length).toNat 0 : Nat) * 131 + (bs.getD ((p * 7 + 3).tmod bs.length).toNat 0 : Nat) * 1117 + p * 29 + p.tdiv bs.length * 53
def pk (bs : List Nat) (p n : Int) : Int := if bs.length = 0 then 0 else if p < bs.length then ((bs.getD p.toNat 0 : Nat) : Int).tmod n else (xorI (hs bs p) ((hs bs p).tdiv 64)).tmod n
theorem byte_lt {bs : List Nat} (hb : ∀ y ∈ bs, y < 256) (i : Nat) : bs.getD i 0 < 256 := by
  by_cases h : i < bs.length
  · have : bs.getD i 0 = bs[i] := by simp [List.getD, h]
    rw [this]
    exact hb _ (List.getElem_mem h)
  · have : bs.getD i 0 = 0 := by simp [List.getD, List.getElem?_eq_none (by omega : bs.length ≤ i)]
    omega
theorem tdiv_bound {p l : Int} (h0 : 0 ≤ p) (hl : 1 ≤ l) : 0 ≤ p.tdiv l ∧ p.tdiv l ≤ p := by
  rw [Int.tdiv_eq_ediv_of_nonneg h0]
  exact ⟨Int.ediv_nonneg h0 (by omega), Int.ediv_le_self _ h0⟩
theorem tmod_bound {p l : Int} (h0 : 0 ≤ p) (hl : 1 ≤ l) : 0 ≤ p.tmod l ∧ p.tmod l < l := by
  rw [Int.tmod_eq_emod_of_nonneg h0]
  exact ⟨Int.emod_nonneg _ (by omega), Int.emod_lt_of_pos _ (by omega)⟩
theorem hs_bound {bs : List Nat} (hb : ∀ y ∈ bs, y < 256) {p : Int} (h0 : 0 ≤ p) (h1 : p ≤ 1000000) (hl : 1 ≤ bs.length) : 0 ≤ hs bs p ∧ hs bs p < 1000000000 := by
  have a := byte_lt hb (p.tmod bs.length).toNat
  have b := byte_lt hb ((p * 7 + 3).tmod bs.length).toNat
  have c := tdiv_bound (p := p) (l := bs.length) h0 (by omega)
  unfold hs
  omega
theorem pk_bound {bs : List Nat} (hb : ∀ y ∈ bs, y < 256) {p n : Int} (h0 : 0 ≤ p) (h1 : p ≤ 1000000) (hn : 1 ≤ n) : 0 ≤ pk bs p n ∧ pk bs p n < n := by
  unfold pk
  split
  · omega
  · split
    · exact tmod_bound (by omega) hn
    · have a := hs_bound hb h0 h1 (by omega)
      have b := tdiv_bound (p := hs bs p) (l := 64) a.1 (by omega)
      have c := xor_bound a.1 (by omega) b.1 (by omega)
      exact tmod_bound c.1 hn
theorem atI_y {bs : List Nat} {i : Int} (h0 : 0 ≤ i) (h1 : i < bs.length) : atI (bs.map .y) i = some (.y (bs.getD i.toNat 0)) := by
  have : i.toNat < bs.length := by omega
  simp [atI, h0, List.getD, this]

theorem c_pick {bs : List Nat} (hb : ∀ y ∈ bs, y < 256) (hl : bs.length ≤ 2000) {p n : Int} (h0 : 0 ≤ p) (h1 : p < 1000000) (hn : 1 ≤ n) :
    call lf n_spec_l20Rd_pick [.ref (.st [.sl 0 (bs.map .y), .i p]), .i n] = some (.i (pk bs p n), [.st [.sl 0 (bs.map .y), .i (p + 1)]]) := by
  rw [call_k lf n_spec_l20Rd_pick _ (F := F_spec_l20Rd_pick) rfl rfl]
  have w1 : wr (p + 1) = p + 1 := wr_id (by omega) (by omega)
  have w2 : wr p = p := wr_id (by omega) (by omega)
  have n1 : ¬ n < 1 := by omega
  have n2 : ¬ n = 0 := by omega
  by_cases e : bs.length = 0
  · have e1 : ((bs.length : Int) == 0) = true := by rw [e]; rfl
    simp [F_spec_l20Rd_pick, w1, n1, e1, pk, e]
  · have e1 : ((bs.length : Int) == 0) = false := beq_eq_false_iff_ne.2 (by omega)
    by_cases f : p < bs.length
    · have a := atI_y (bs := bs) h0 f
      simp [F_spec_l20Rd_pick, w1, w2, n1, n2, e1, pk, e, f, a]
    · have lpos : (1 : Int) ≤ bs.length := by omega
      have l0 : ¬ bs = [] := fun h => e (by rw [h]; rfl)
      have t1 := tmod_bound h0 lpos
      have t2 := tmod_bound (p := p * 7 + 3) (by omega) lpos
      have a1 := atI_y t1.1 t1.2
      have a2 := atI_y t2.1 t2.2
      have b1 := byte_lt hb (p.tmod bs.length).toNat
      have b2 := byte_lt hb ((p * 7 + 3).tmod bs.length).toNat
      have d := tdiv_bound h0 lpos
      have H := hs_bound hb h0 (by omega) (by omega : 1 ≤ bs.length)
      have hd : hs bs p = (bs.getD (p.tmod bs.length).toNat 0 : Nat) * 131 + (bs.getD ((p * 7 + 3).tmod bs.length).toNat 0 : Nat) * 1117 + p * 29 + p.tdiv bs.length * 53 := rfl
      have hp : pk bs p n = (xorI (hs bs p) ((hs bs p).tdiv 64)).tmod n := by unfold pk; rw [if_neg e, if_neg f]
      generalize bs.getD (p.tmod bs.length).toNat 0 = u at *
      generalize bs.getD ((p * 7 + 3).tmod bs.length).toNat 0 = v at *
      have v1 : wr (p * 7) = p * 7 := wr_id (by omega) (by omega)
      have v2 : wr (p * 7 + 3) = p * 7 + 3 := wr_id (by omega) (by omega)
      have v3 : wr ((u : Int) * 131) = u * 131 := wr_id (by omega) (by omega)
      have v4 : wr ((v : Int) * 1117) = v * 1117 := wr_id (by omega) (by omega)
      have v5 : wr ((u : Int) * 131 + v * 1117) = u * 131 + v * 1117 := wr_id (by omega) (by omega)
      have v6 : wr (p * 29) = p * 29 := wr_id (by omega) (by omega)
      have v7 : wr ((u : Int) * 131 + v * 1117 + p * 29) = u * 131 + v * 1117 + p * 29 := wr_id (by omega) (by omega)
      have v8 : wr (p.tdiv bs.length) = p.tdiv bs.length := wr_id (by omega) (by omega)
      have v9 : wr (p.tdiv bs.length * 53) = p.tdiv bs.length * 53 := wr_id (by omega) (by omega)
      have va : wr ((u : Int) * 131 + v * 1117 + p * 29 + p.tdiv bs.length * 53) = hs bs p := by rw [hd]; exact wr_id (by omega) (by omega)
      have b := tdiv_bound (p := hs bs p) (l := 64) H.1 (by omega)
      have vb : wr ((hs bs p).tdiv 64) = (hs bs p).tdiv 64 := wr_id (by omega) (by omega)
      simp [F_spec_l20Rd_pick, w1, w2, n1, n2, e1, f, l0, a1, a2, v1, v2, v3, v4, v5, v6, v7, v8, v9, va, vb, hp]
theorem c_odd {bs : List Nat} (hb : ∀ y ∈ bs, y < 256) (hl : bs.length ≤ 2000) {p n : Int} (h0 : 0 ≤ p) (h1 : p < 1000000) (hn : 1 ≤ n) (hn2 : n ≤ 1000000) :
    call lf n_spec_l20Rd_odd [.ref (.st [.sl 0 (bs.map .y), .i p]), .i n] = some (.b (pk bs p n == n - 1), [.st [.sl 0 (bs.map .y), .i (p + 1)]]) := by
  rw [call_k lf n_spec_l20Rd_odd _ (F := F_spec_l20Rd_odd) rfl rfl]
  have n1 : 0 < n := by omega
  have w : wr (n - 1) = n - 1 := wr_id (by omega) (by omega)
  simp [F_spec_l20Rd_odd, n1, w, c_pick hb hl h0 h1 hn]
theorem c_open {bs : List Nat} (hl : bs.length ≤ 1048576) : call lf n_spec_l20Open [.sl 0 (bs.map .y)] = some (.ref (.st [.sl 0 ((bs.take 2000).map .y), .i 0]), []) := by
  rw [call_k lf n_spec_l20Open _ (F := F_spec_l20Open) rfl rfl]
  by_cases h : 2000 < (bs.length : Int)
  · have h2 : (2000 : Int) ≤ bs.length := by omega
    have h3 : ∀ x ∈ bs, (DV.y x).cells.length = 1 := fun _ _ => rfl
    simp [F_spec_l20Open, h, h2, List.map_take]
  · have h2 : bs.take 2000 = bs := List.take_of_length_le (by omega)
    simp [F_spec_l20Open, h, h2]

theorem take_b {bs : List Nat} (hb : ∀ y ∈ bs, y < 256) : (∀ y ∈ bs.take 2000, y < 256) ∧ (bs.take 2000).length ≤ 2000 :=
  ⟨fun y h => hb y (List.mem_of_mem_take h), by simp; omega⟩
end
section
theorem cells_st (cs : List DV) : (DV.st cs).cells = cs := rfl
theorem cells_sl (p : Nat) (es : List DV) : (DV.sl p es).cells = [DV.sl p es] := rfl
theorem cells_i (n : Int) : (DV.i n).cells = [DV.i n] := rfl
theorem cells_y (n : Nat) : (DV.y n).cells = [DV.y n] := rfl
theorem cells_b (n : Bool) : (DV.b n).cells = [DV.b n] := rfl
theorem cells_s (n : List UInt8) : (DV.s n).cells = [DV.s n] := rfl
attribute [-simp] DV.cells
attribute [local simp] cells_st cells_sl cells_i cells_y cells_b cells_s
def row (t : List T) : DV := .sl 1 (t.map e2)
theorem flat_set (m : T) : ∀ {ps : List (List T)} {A : Nat} {t : List T}, ps[A]? = some t → (ps.set A (t ++ [m])).flatten.length = ps.flatten.length + 1
  | [], _, _, h => by simp at h
  | x :: ps, 0, t, h => by simp at h; subst h; simp; omega
  | x :: ps, A + 1, t, h => by
    simp only [List.getElem?_cons_succ] at h
    have := flat_set m h
    simp at this ⊢
    omega
theorem flat_len : ∀ {ps : List (List T)} {A : Nat} {t : List T}, ps[A]? = some t → t.length ≤ ps.flatten.length
  | [], _, _, h => by simp at h
  | x :: ps, 0, t, h => by simp at h; subst h; simp
  | x :: ps, A + 1, t, h => by
    simp only [List.getElem?_cons_succ] at h
    have := flat_len h
    simp only [List.flatten_cons, List.length_append]; omega
end
section
attribute [-simp] DV.cells
attribute [local simp] cells_st cells_sl cells_i cells_y cells_b cells_s
theorem cells_w (x : BitVec 32) : (DV.w x).cells = [DV.w x] := rfl
attribute [local simp] cells_w
theorem c_impl_statesOfPart (k a : Int) (ps : List (BitVec 32)) (h : (k = 0 ∧ 0 ≤ a ∧ a < 5) ∨ (k = 1 ∧ 1 ≤ ps.length) ∨ ((k = 2 ∨ k = 3) ∧ 2 ≤ ps.length)) :
    call lf n_impl_statesOfPart [.st [.i k, .i a], .sl 0 (ps.map .w)] = some (.w (mkW (k, a) ps), []) := by
  rw [call_k lf n_impl_statesOfPart _ (F := F_impl_statesOfPart) rfl rfl]
  rcases h with ⟨rfl, h0, h5⟩ | ⟨rfl, h1⟩ | ⟨hk, h2⟩
  · have c5 : a = 0 ∨ a = 1 ∨ a = 2 ∨ a = 3 ∨ a = 4 := by omega
    rcases c5 with rfl | rfl | rfl | rfl | rfl <;> simp [F_impl_statesOfPart, gEnv_0, mkW, yesW]
  · obtain ⟨x, xs, rfl⟩ : ∃ x xs, ps = x :: xs := by cases ps with | nil => simp at h1 | cons x xs => exact ⟨x, xs, rfl⟩
    simp [F_impl_statesOfPart, gEnv_0, mkW, atI]
  · obtain ⟨x, y, xs, rfl⟩ : ∃ x y xs, ps = x :: y :: xs := by
      match ps, h2 with
      | x :: y :: xs, _ => exact ⟨x, y, xs, rfl⟩
    rcases hk with rfl | rfl <;> simp [F_impl_statesOfPart, gEnv_0, mkW, atI]
end
section
attribute [-simp] DV.cells
attribute [local simp] cells_st cells_sl cells_i cells_y cells_b cells_s cells_w
/-- the stack lies in front of what was there -/
def stF (n k : Int) (es : List DV) (N : Nat) (g : List DV) (st : List (BitVec 32)) : LS :=
  ⟨[(1, .fn n_impl_statesOfPart []), (5, .own 2568 N 0 st.length), (10, .sl 0 es), (11, .i n), (12, .i k)], [(2568, st.map .w ++ g)]⟩
set_option maxHeartbeats 4000000 in
theorem l_fold0 (n k : Int) (es : List DV) (N : Nat) (g : List DV) (st : List (BitVec 32)) (hN : N = st.length + g.length) (hl : st.length ≤ 1000) (a : Int) (h0 : 0 ≤ a) (h5 : a < 5) (hk : k < n) (hat : atI es k = some (.st [.i 0, .i a])) (hw : wr (k + 1) = k + 1) :
    ∃ N' g', N' = (stepG mkW st (0, a)).length + g'.length ∧ ex lf F_impl_foldTerm_uint32_L0 (stF n k es N g st) = some (.normal, stF n (k + 1) es N' g' (stepG mkW st (0, a))) := by
  have C := c_impl_statesOfPart 0 a [] (.inl ⟨rfl, h0, h5⟩)
  have P := c_impl_partsTaken 0
  have w1 : wr (st.length : Int) = st.length := wr_id (by omega) (by omega)
  have b1 : st.length + 1 ≤ bound := by unfold bound; omega
  rw [stepG_0]
  simp at C P
  cases g with
  | nil =>
    refine ⟨st.length + 1, [], by simp, ?_⟩
    have hN' : N = st.length := by simpa using hN
    subst hN'
    unfold stF
    simp [F_impl_foldTerm_uint32_L0, hk, hat, hw, C, P, w1, b1]
  | cons y g =>
    refine ⟨N, g, by simp at hN ⊢; omega, ?_⟩
    have hL : (st.map DV.w ++ y :: g).length = N := by rw [hN]; simp
    have t1 : List.take st.length (st.map DV.w ++ y :: g) = st.map .w := by rw [List.take_append_of_le_length (by simp), List.take_of_length_le (by simp)]
    have t2 : List.drop (st.length + 1) (st.map DV.w ++ y :: g) = g := by rw [List.drop_append]; simp
    have n1 : st.length < N := by rw [hN]; simp
    have n2 : st.length + 1 ≤ N := by omega
    have n3 : ¬ st.length = N := by omega
    have n4 : st.length ≤ N := by omega
    have t4 : List.drop st.length (st.map DV.w) = [] := List.drop_of_length_le (by simp)
    unfold stF
    generalize st.map DV.w ++ y :: g = L at *
    simp [F_impl_foldTerm_uint32_L0, hk, hat, hw, C, P, w1, b1, hL, t1, t2, t4, n1, n2, n3, n4]
set_option maxHeartbeats 4000000 in
theorem l_fold1 (n k : Int) (es : List DV) (N : Nat) (g : List DV) (st : List (BitVec 32)) (x : BitVec 32) (hN : N = (st ++ [x]).length + g.length) (hl : st.length ≤ 1000) (a : Int) (hk : k < n) (hat : atI es k = some (.st [.i 1, .i a])) (hw : wr (k + 1) = k + 1) :
    ∃ N' g', N' = (stepG mkW (st ++ [x]) (1, a)).length + g'.length ∧ ex lf F_impl_foldTerm_uint32_L0 (stF n k es N g (st ++ [x])) = some (.normal, stF n (k + 1) es N' g' (stepG mkW (st ++ [x]) (1, a))) := by
  have C := c_impl_statesOfPart 1 a [x] (.inr (.inl ⟨rfl, by simp⟩))
  have P := c_impl_partsTaken 1
  have w1 : wr (st.length : Int) = st.length := wr_id (by omega) (by omega)
  have b1 : st.length + 1 ≤ bound := by unfold bound; omega
  rw [stepG_1]
  simp at C P hN
  refine ⟨N, g, by simp; omega, ?_⟩
  have hL : ((st ++ [x]).map DV.w ++ g).length = N := by rw [hN]; simp; omega
  have t1 : List.take st.length ((st ++ [x]).map DV.w ++ g) = st.map .w := by rw [List.map_append, List.append_assoc, List.take_append_of_le_length (by simp), List.take_of_length_le (by simp)]
  have t2 : List.drop (st.length + 1) ((st ++ [x]).map DV.w ++ g) = g := by rw [List.drop_append]; simp
  have t3 : List.drop st.length (List.take (st.length + 1) ((st ++ [x]).map DV.w ++ g)) = [.w x] := by
    rw [List.take_append_of_le_length (by simp), List.take_of_length_le (by simp), List.map_append, List.drop_append]; simp
  have n1 : st.length < N := by omega
  have n2 : st.length + 1 ≤ N := by omega
  have n3 : ¬ st.length = N := by omega
  have n4 : st.length ≤ N := by omega
  have l1 : (st.length : Int) ≤ st.length + 1 := by omega
  unfold stF
  generalize (st ++ [x]).map DV.w ++ g = L at *
  simp [F_impl_foldTerm_uint32_L0, hk, hat, hw, C, P, w1, b1, hL, t1, t2, t3, n1, n2, n3, n4, l1]
set_option maxHeartbeats 4000000 in
theorem l_fold2 (n k : Int) (es : List DV) (N : Nat) (g : List DV) (st : List (BitVec 32)) (x y : BitVec 32) (hN : N = (st ++ [x, y]).length + g.length) (hl : st.length ≤ 1000) (c a : Int) (hc : c = 2 ∨ c = 3) (hk : k < n) (hat : atI es k = some (.st [.i c, .i a])) (hw : wr (k + 1) = k + 1) :
    ∃ N' g', N' = (stepG mkW (st ++ [x, y]) (c, a)).length + g'.length ∧ ex lf F_impl_foldTerm_uint32_L0 (stF n k es N g (st ++ [x, y])) = some (.normal, stF n (k + 1) es N' g' (stepG mkW (st ++ [x, y]) (c, a))) := by
  have C := c_impl_statesOfPart c a [x, y] (.inr (.inr ⟨hc, by simp⟩))
  have P := c_impl_partsTaken c
  rw [if_neg (by omega), if_neg (by omega)] at P
  have w1 : wr (st.length : Int) = st.length := wr_id (by omega) (by omega)
  have b1 : st.length + 1 ≤ bound := by unfold bound; omega
  rw [stepG_2 _ _ _ _ _ _ hc]
  simp at C hN
  refine ⟨N, .w y :: g, by simp; omega, ?_⟩
  have hL : ((st ++ [x, y]).map DV.w ++ g).length = N := by rw [hN]; simp; omega
  have t1 : List.take st.length ((st ++ [x, y]).map DV.w ++ g) = st.map .w := by rw [List.map_append, List.append_assoc, List.take_append_of_le_length (by simp), List.take_of_length_le (by simp)]
  have t2 : List.drop (st.length + 1) ((st ++ [x, y]).map DV.w ++ g) = .w y :: g := by
    rw [List.map_append, List.append_assoc, List.drop_append]; simp
  have t3 : List.drop st.length (List.take (st.length + 2) ((st ++ [x, y]).map DV.w ++ g)) = [.w x, .w y] := by
    rw [List.take_append_of_le_length (by simp), List.take_of_length_le (by simp), List.map_append, List.drop_append]; simp
  have n1 : st.length < N := by omega
  have n2 : st.length + 1 ≤ N := by omega
  have n3 : ¬ st.length = N := by omega
  have n4 : st.length ≤ N := by omega
  have n5 : st.length + 2 ≤ N := by omega
  have l1 : (st.length : Int) ≤ st.length + 2 := by omega
  have tn : ((st.length : Int) + 2).toNat = st.length + 2 := by omega
  unfold stF
  generalize (st ++ [x, y]).map DV.w ++ g = L at *
  simp [F_impl_foldTerm_uint32_L0, hk, hat, hw, C, P, w1, b1, hL, t1, t2, t3, n1, n2, n3, n4, n5, l1, tn]
theorem l_fold (m n : Int) (hm : m ≤ 5) (hb : n < 1000000) (es : List DV) : ∀ (rest : List T) (k p q : Int) (st : List (BitVec 32)) (N : Nat) (g : List DV), N = st.length + g.length → 0 ≤ k → k + rest.length = n → es.drop k.toNat = rest.map e2 → (st.length : Int) = p → runM m p rest = some q → st.length + rest.length ≤ 1000 →
    ∃ N' g', N' = (rest.foldl (stepG mkW) st).length + g'.length ∧ ex lf F_impl_foldTerm_uint32_W0 (stF n k es N g st) = some (.exit 0, stF n n es N' g' (rest.foldl (stepG mkW) st))
  | [], k, p, q, st, N, g, hN, h0, hn, hd, hp, hr, hl => by
    refine ⟨N, g, hN, ?_⟩
    rw [w_impl_foldTerm_uint32_0]
    have hk : k = n := by simpa using hn
    subst hk
    unfold stF
    simp [F_impl_foldTerm_uint32_L0]
  | t :: rest, k, p, q, st, N, g, hN, h0, hn, hd, hp, hr, hl => by
    obtain ⟨s1, s2, s3, s4, s5, s6⟩ := stp (es := es) (xs := rest.map e2) (x := e2 t) (k := k) (n := n) h0 (by simpa using hn) (by omega) (by simpa using hd)
    simp only [List.length_cons] at hl
    have hmk := hr
    simp only [runM] at hr
    cases hm' : mkS m p t with
    | none => rw [hm'] at hr; cases hr
    | some p1 =>
      rw [hm'] at hr
      simp only at hr
      obtain ⟨c, a⟩ := t
      simp only [e2] at s2
      have go : (∃ N1 g1, N1 = (stepG mkW st (c, a)).length + g1.length ∧ ex lf F_impl_foldTerm_uint32_L0 (stF n k es N g st) = some (.normal, stF n (k + 1) es N1 g1 (stepG mkW st (c, a)))) → ((stepG mkW st (c, a)).length : Int) = p1 → (stepG mkW st (c, a)).length ≤ st.length + 1 →
          ∃ N' g', N' = (((c, a) :: rest).foldl (stepG mkW) st).length + g'.length ∧ ex lf F_impl_foldTerm_uint32_W0 (stF n k es N g st) = some (.exit 0, stF n n es N' g' (((c, a) :: rest).foldl (stepG mkW) st)) := by
        rintro ⟨N1, g1, hN1, h1⟩ h2 h3
        obtain ⟨N', g', q1, q2⟩ := l_fold m n hm hb es rest (k + 1) p1 q (stepG mkW st (c, a)) N1 g1 hN1 s4 (by simpa using s5) s6 h2 hr (by omega)
        refine ⟨N', g', q1, ?_⟩
        rw [w_impl_foldTerm_uint32_0, h1]
        exact q2
      unfold mkS at hm'
      simp only at hm'
      split at hm'
      · rename_i hc
        subst hc
        split at hm'
        · rename_i ha
          injection hm' with hm'
          exact go (l_fold0 n k es N g st hN (by omega) a ha.1 (by omega) s1 s2 s3) (by rw [stepG_0]; simp; omega) (by rw [stepG_0]; simp)
        · cases hm'
      · split at hm'
        · rename_i _ hc
          subst hc
          split at hm'
          · rename_i ha
            injection hm' with hm'
            obtain ⟨r, x, rfl⟩ := last1 (l := st) (by omega)
            have hl' := hl
            simp only [List.length_append, List.length_singleton] at hl hp
            exact go (l_fold1 n k es N g r x hN (by omega) a s1 s2 s3) (by rw [stepG_1]; simp; omega) (by rw [stepG_1]; simp)
          · cases hm'
        · split at hm'
          · rename_i _ _ hc
            split at hm'
            · rename_i ha
              injection hm' with hm'
              obtain ⟨r, x, y, rfl⟩ := last2 (l := st) (by omega)
              simp only [List.length_append, List.length_cons, List.length_nil] at hl hp
              exact go (l_fold2 n k es N g r x y hN (by omega) c a hc s1 s2 s3) (by rw [stepG_2 _ _ _ _ _ _ hc]; simp; omega) (by rw [stepG_2 _ _ _ _ _ _ hc]; simp)
            · cases hm'
          · cases hm'
theorem c_impl_trueStates {m : Int} {ts : List T} (h : tmOk m ts = true) : call lf n_impl_trueStates [.sl 0 (ts.map e2)] = some (.w (tsW ts), []) := by
  obtain ⟨h1, h2, h3⟩ := tmOk_iff.1 h
  obtain ⟨x, _, _, hf, _⟩ := tv_tree h
  obtain ⟨N', g', hN', L⟩ := l_fold m ts.length h1.2 (by omega) (ts.map e2) ts 0 0 1 [] 0 [] rfl (Int.le_refl _) (by simp) (by simp) rfl h3 (by simp; omega)
  rw [hf] at L hN'
  have C : call lf n_impl_foldTerm_uint32 [.sl 0 (ts.map e2), .fn n_impl_statesOfPart []] = some (.w (tsW ts), []) := by
    rw [call_k lf n_impl_foldTerm_uint32 _ (F := F_impl_foldTerm_uint32) rfl rfl]
    unfold stF at L
    simp at L hN'
    have hL : g'.length + 1 = N' := by omega
    have n1 : 1 ≤ N' := by omega
    simp [F_impl_foldTerm_uint32, L, hL, n1]
  rw [call_k lf n_impl_trueStates _ (F := F_impl_trueStates) rfl rfl]
  simp [F_impl_trueStates, C]
end
section
attribute [-simp] DV.cells
attribute [local simp] cells_st cells_sl cells_i cells_y cells_b cells_s cells_w
theorem bitW (v : BitVec 32) (s : Nat) : (shrW v s &&& 1#32 == 1#32) = v.getLsbD s := by
  unfold shrW
  rw [BitVec.and_one_eq_setWidth_ofBool_getLsbD, BitVec.getLsbD_ushiftRight, Nat.add_zero]
  cases v.getLsbD s <;> rfl
theorem c_impl_hasState (v : BitVec 32) (s : Int) (h0 : 0 ≤ s) (h1 : s < 32) : call lf n_impl_hasState [.w v, .i s] = some (.b (v.getLsbD s.toNat), []) := by
  rw [call_k lf n_impl_hasState _ (F := F_impl_hasState) rfl rfl]
  have e : min s.toNat 32 = s.toNat := by omega
  have n0 : ¬ s < 0 := by omega
  simp [F_impl_hasState, n0, e, bitW]
def vOf (m : Int) (ts : List T) (s : Int) : Bool := tmOk m ts && stOk m s && tv ts s.toNat
theorem st32 {m s : Int} (h : stOk m s = true) : 0 ≤ s ∧ s < 32 := by
  obtain ⟨h1, h2, h3⟩ := stOk_iff.1 h
  have : (2 : Int) ^ m.toNat ≤ 2 ^ 5 := Md.pow_le (n := m.toNat) (m := 5) (by omega) 2 (by omega)
  simp at this; omega
theorem c_impl_ValueOf (m : Int) (ts : List T) (s : Int) (hb : (ts.length : Int) < 1099511627776) : call lf n_impl_ValueOf [.i m, .sl 0 (ts.map e2), .i s] = some (.b (vOf m ts s), []) := by
  rw [call_k lf n_impl_ValueOf _ (F := F_impl_ValueOf) rfl rfl]
  have C1 := c_impl_TermOk m ts hb
  have C2 := c_impl_StateOk m s
  unfold vOf
  cases h1 : tmOk m ts with
  | false => rw [h1] at C1; simp [F_impl_ValueOf, C1]
  | true =>
    rw [h1] at C1
    cases h2 : stOk m s with
    | false => rw [h2] at C2; simp [F_impl_ValueOf, C1, C2]
    | true =>
      rw [h2] at C2
      have C3 := c_impl_trueStates h1
      obtain ⟨s0, s1⟩ := st32 h2
      have C4 := c_impl_hasState (tsW ts) s s0 s1
      simp [F_impl_ValueOf, C1, C2, C3, C4, tv]
attribute [-simp] sliceD
def bI (b : Bool) : Int := if b then 1 else 0
end
section
attribute [-simp] DV.cells sliceD
attribute [local simp] cells_st cells_sl cells_i cells_y cells_b cells_s cells_w
theorem orI_nat {a b : Nat} (ha : a < 2 ^ 62) (hb : b < 2 ^ 62) : orI (a : Int) (b : Int) = ((a ||| b : Nat) : Int) := by
  have hab : a ||| b < 2 ^ 62 := Nat.or_lt_two_pow ha hb
  unfold orI
  have e : (BitVec.ofInt 64 (a : Int) ||| BitVec.ofInt 64 (b : Int)).toNat = a ||| b := by
    rw [BitVec.toNat_or, BitVec.ofInt_natCast, BitVec.ofInt_natCast, BitVec.toNat_ofNat, BitVec.toNat_ofNat, Nat.mod_eq_of_lt (by omega), Nat.mod_eq_of_lt (by omega)]
  rw [e]
  exact wr_id (by omega) (by omega)
theorem bit_bI {a s : Nat} (hs : s ≤ 60) : (shrI (a : Int) (s : Int)).tmod 2 = bI (a.testBit s) := by
  rw [shr1 (by omega) (by omega), tmod2 (Int.ediv_nonneg (by omega) (Int.le_of_lt (Int.pow_pos (by omega))))]
  unfold bI
  rw [Nat.testBit_eq_decide_div_mod_eq, Int.toNat_natCast]
  have : (a : Int) / 2 ^ s % 2 = ((a / 2 ^ s % 2 : Nat) : Int) := by simp
  rw [this]
  by_cases h : a / 2 ^ s % 2 = 1
  · simp [h]
  · have : a / 2 ^ s % 2 = 0 := by omega
    simp [this]
theorem pow5 {m : Int} (h1 : 1 ≤ m) (h5 : m ≤ 5) : 2 ≤ 2 ^ m.toNat ∧ 2 ^ m.toNat ≤ 32 ∧ ((2 ^ m.toNat : Nat) : Int) = 2 ^ m.toNat := by
  have c : m = 1 ∨ m = 2 ∨ m = 3 ∨ m = 4 ∨ m = 5 := by omega
  rcases c with rfl | rfl | rfl | rfl | rfl <;> decide
end
section
attribute [-simp] DV.cells sliceD
attribute [local simp] cells_st cells_sl cells_i cells_y cells_b cells_s cells_w
/-- 1 if f holds wherever g does below N, 0 if nowhere, else -1 -/
def fo (f g : Nat → Bool) (N : Nat) : Int := if allTo (fun s => !g s || f s) N then 1 else if allTo (fun s => !g s || !f s) N then 0 else -1
/-- What the states say that agree. -/
def agB (ks : List Int) (s : Nat) : Bool := ag ks (s : Int)
end
section
attribute [-simp] DV.cells sliceD
attribute [local simp] cells_st cells_sl cells_i cells_y cells_b cells_s cells_w
/-- what is known of a term by what is known of its tests -/
def foT (m : Int) (ts : List T) (ks : List Int) : Int := fo (tv ts) (agB ks) (2 ^ m.toNat)
def told (m : Nat) (st so : Nat) : List Int := (List.range m).map fun k => if so.testBit k then bI (st.testBit k) else -1
theorem bI_eq1 (b : Bool) : (bI b == 1) = b := by cases b <;> rfl
end
section
attribute [-simp] DV.cells sliceD
attribute [local simp] cells_st cells_sl cells_i cells_y cells_b cells_s cells_w
def agW : List Int → Nat → BitVec 32 → BitVec 32
  | [], _, w => w
  | k :: r, i, w => agW r (i + 1) (if k = 0 then w &&& ~~~(yesW i) else if k = 1 then w &&& yesW i else w)
end
section
attribute [-simp] DV.cells sliceD
attribute [local simp] cells_st cells_sl cells_i cells_y cells_b cells_s cells_w
theorem div_bI (a s : Nat) : (a : Int) / 2 ^ s % 2 = bI (a.testBit s) := by
  unfold bI
  rw [Nat.testBit_eq_decide_div_mod_eq]
  have : (a : Int) / 2 ^ s % 2 = ((a / 2 ^ s % 2 : Nat) : Int) := by simp
  rw [this]
  by_cases h : a / 2 ^ s % 2 = 1
  · simp [h]
  · have : a / 2 ^ s % 2 = 0 := by omega
    simp [this]
theorem c_impl_hasTest (so k : Nat) (hk : k ≤ 40) : call lf n_impl_hasTest [.i so, .i k] = some (.b (so.testBit k), []) := by
  rw [call_k lf n_impl_hasTest _ (F := F_impl_hasTest) rfl rfl]
  have ni : ¬ (k : Int) < 0 := by omega
  have e : andI (shrI (so : Int) (k : Int)) 1 = bI (so.testBit k) := by
    rw [bit_and, shr1 (by omega) (by omega), Int.toNat_natCast, div_bI]
  simp [F_impl_hasTest, ni, e, bI_eq1]
end
section
attribute [-simp] DV.cells
attribute [local simp] cells_st cells_sl cells_i cells_y cells_b cells_s
theorem or_lt {a b m : Int} (h1 : 1 ≤ m) (h5 : m ≤ 5) (a0 : 0 ≤ a) (a1 : a < 2 ^ m.toNat) (b0 : 0 ≤ b) (b1 : b < 2 ^ m.toNat) : 0 ≤ orI a b ∧ orI a b < 2 ^ m.toNat ∧ (orI a b).toNat = a.toNat ||| b.toNat := by
  obtain ⟨x, rfl⟩ := Int.eq_ofNat_of_zero_le a0
  obtain ⟨y, rfl⟩ := Int.eq_ofNat_of_zero_le b0
  obtain ⟨p1, p2, p3⟩ := pow5 h1 h5
  have hx : x < 2 ^ m.toNat := by omega
  have hy : y < 2 ^ m.toNat := by omega
  have := Nat.or_lt_two_pow hx hy
  rw [orI_nat (by omega) (by omega)]
  exact ⟨by omega, by omega, rfl⟩
end
section
theorem c_alive : call lf n_laws_alive [] = some (.b true, []) := by
  rw [call_k lf n_laws_alive _ (F := F_laws_alive) rfl rfl]
  have a := c_impl_TestsOk [(1, 1)] (by simp)
  have b := c_impl_TestsOk [(0, 0)] (by simp)
  have a1 : tsOk [(1, 1)] = true := by decide
  have b1 : tsOk [(0, 0)] = false := by decide
  rw [a1] at a
  rw [b1] at b
  simp [e2] at a b
  simp [F_laws_alive, a, b]
def eqAt (aS bs : List T) (i : Nat) : Bool := aS[i]? == bs[i]?
end
section
attribute [-simp] DV.cells
attribute [local simp] cells_st cells_sl cells_i cells_y cells_b cells_s
theorem c_sameMarks (aS bs : List T) (ha : aS.length ≤ 1000) : call lf n_laws_sameMarks [.sl 0 (aS.map e2), .sl 0 (bs.map e2)] = some (.b (aS == bs), []) := by
  rw [call_k lf n_laws_sameMarks _ (F := F_laws_sameMarks) rfl rfl]
  by_cases hl : (aS.length : Int) = bs.length
  · have L : ex lf F_laws_sameMarks_W0 ⟨[(0, .sl 0 (aS.map e2)), (1, .sl 0 (bs.map e2)), (5, .i 0)], []⟩ = if allTo (eqAt aS bs) aS.length = true then some (.exit 0, ⟨[(0, .sl 0 (aS.map e2)), (1, .sl 0 (bs.map e2)), (5, .i aS.length)], []⟩) else some (.ret, ⟨[(4, .b false)], []⟩) := by
      refine loop_all aS.length (fun i => ⟨[(0, .sl 0 (aS.map e2)), (1, .sl 0 (bs.map e2)), (5, .i i)], []⟩) _ (fun i hi => ?_) ?_ (by simp)
      · obtain ⟨t, q1, q2, q3, q4⟩ := at_e2 hi
        obtain ⟨u, r1, r2, r3, r4⟩ := at_e2 (ts := bs) (i := i) (by omega)
        have w1 : wr ((i : Int) + 1) = (i : Int) + 1 := wr_id (by omega) (by omega)
        by_cases x1 : t.1 = u.1
        · by_cases x2 : t.2 = u.2
          · have e : eqAt aS bs i = true := by rw [eqAt, q1, r1]; simp [Prod.ext x1 x2]
            simp [F_laws_sameMarks_L0, hi, q3, r3, w1, eqI, x1, x2, e]
          · have e : eqAt aS bs i = false := by
              rw [eqAt, q1, r1, beq_eq_false_iff_ne]; intro h; injection h with h; exact x2 (by rw [h])
            simp [F_laws_sameMarks_L0, hi, q3, r3, w1, eqI, x1, x2, e]
        · have e : eqAt aS bs i = false := by
            rw [eqAt, q1, r1, beq_eq_false_iff_ne]; intro h; injection h with h; exact x1 (by rw [h])
          simp [F_laws_sameMarks_L0, hi, q3, r3, w1, eqI, x1, e]
      · simp [F_laws_sameMarks_L0]
    have e : allTo (eqAt aS bs) aS.length = (aS == bs) := by
      rw [Bool.eq_iff_iff, allTo_iff, beq_iff_eq]
      constructor
      · intro h
        apply List.ext_getElem?
        intro i
        by_cases hi : i < aS.length
        · have := h i hi
          unfold eqAt at this
          exact beq_iff_eq.1 this
        · rw [List.getElem?_eq_none (by omega), List.getElem?_eq_none (by omega)]
      · rintro rfl i _; simp [eqAt]
    rw [e] at L
    have hl' : aS.length = bs.length := by omega
    cases h : (aS == bs) <;> simp [F_laws_sameMarks, L, hl', h]
  · have e : (aS == bs) = false := by rw [beq_eq_false_iff_ne]; rintro rfl; exact hl rfl
    have y : ((aS.length : Int) != bs.length) = true := bne_iff_ne.2 hl
    simp [F_laws_sameMarks, y, e]
end
section
theorem fold_flt {P : Type} (mk : T → List P → P) : ∀ (x : Tm) (st : List P), (flt x).foldl (stepG mk) st = st ++ [valG mk x]
  | .tst a, st => by simp [flt, valG, stepG_0]
  | .neg x, st => by
    simp only [flt, List.foldl_append, fold_flt mk x, List.foldl_cons, List.foldl_nil]
    rw [stepG_1]; rfl
  | .and x y, st => by
    simp only [flt, List.foldl_append, fold_flt mk x, fold_flt mk y, List.foldl_cons, List.foldl_nil, List.append_assoc, List.cons_append, List.nil_append]
    rw [stepG_2 _ _ _ _ _ _ (.inl rfl)]; rfl
  | .or x y, st => by
    simp only [flt, List.foldl_append, fold_flt mk x, fold_flt mk y, List.foldl_cons, List.foldl_nil, List.append_assoc, List.cons_append, List.nil_append]
    rw [stepG_2 _ _ _ _ _ _ (.inr rfl)]; rfl
theorem tv_flt {m : Int} (hm : m ≤ 5) {x : Tm} (hb : tb m x) {s : Nat} (hs : s < 32) : tv (flt x) s = ev s x := by
  unfold tv tsW
  rw [fold_flt]
  exact val_bit hm hb hs
end
section
attribute [-simp] DV.cells
attribute [local simp] cells_st cells_sl cells_i cells_y cells_b cells_s cells_w
theorem or_fin : ∀ (s : Fin 32) (k : Fin 5), orI (s.val : Int) ((2 : Int) ^ k.val) = ((s.val ||| 2 ^ k.val : Nat) : Int) := by decide +kernel
theorem or_nat {s k : Nat} (hs : s < 32) (hk : k < 5) : orI (s : Int) ((2 : Int) ^ k) = ((s ||| 2 ^ k : Nat) : Int) := or_fin ⟨s, hs⟩ ⟨k, hk⟩
end
section
/-- each of the tests once, from those on that some tests are -/
def orS (m : Int) : Nat → List Int → Bool
  | _, [] => true
  | so, a :: r => decide (0 ≤ a ∧ a < m) && !so.testBit a.toNat && orS m (so ||| 2 ^ a.toNat) r
def orOk (m : Int) (os : List Int) : Bool := nOk m && decide ((os.length : Int) = m) && orS m 0 os
def setO : Nat → List Int → Nat
  | so, [] => so
  | so, a :: r => setO (so ||| 2 ^ a.toNat) r
theorem orS_cons {m : Int} {so : Nat} {a : Int} {r : List Int} : orS m so (a :: r) = true ↔ (0 ≤ a ∧ a < m) ∧ so.testBit a.toNat = false ∧ orS m (so ||| 2 ^ a.toNat) r = true := by
  simp [orS, and_assoc]
theorem orOk_iff {m : Int} {os : List Int} : orOk m os = true ↔ (1 ≤ m ∧ m ≤ 5) ∧ (os.length : Int) = m ∧ orS m 0 os = true := by
  rw [orOk, Bool.and_eq_true, Bool.and_eq_true, nOk_iff, decide_eq_true_eq, and_assoc]
theorem setO_app : ∀ (so : Nat) (p q : List Int), setO so (p ++ q) = setO (setO so p) q
  | _, [], _ => rfl
  | so, a :: r, q => setO_app (so ||| 2 ^ a.toNat) r q
theorem orS_app {m : Int} : ∀ (so : Nat) (p q : List Int), orS m so (p ++ q) = (orS m so p && orS m (setO so p) q)
  | _, [], q => by simp [orS, setO]
  | so, a :: r, q => by simp only [List.cons_append, orS, setO, orS_app (so ||| 2 ^ a.toNat) r q, Bool.and_assoc]
theorem or_bit (so a k : Nat) : (so ||| 2 ^ a).testBit k = (so.testBit k || decide (a = k)) := by
  rw [Nat.testBit_or, Nat.testBit_two_pow]
theorem or_lt2 {m so a : Nat} (h : so < 2 ^ m) (ha : a < m) : so ||| 2 ^ a < 2 ^ m := Nat.or_lt_two_pow h (Nat.pow_lt_pow_right (by omega) ha)
theorem setO_bit : ∀ {os : List Int} {so k : Nat}, (∀ o ∈ os, 0 ≤ o) → ((setO so os).testBit k = true ↔ so.testBit k = true ∨ (k : Int) ∈ os)
  | [], _, _, _ => by simp [setO]
  | a :: r, so, k, h => by
    have ha := h a (by simp)
    rw [setO, setO_bit (os := r) (fun o ho => h o (by simp [ho])), or_bit]
    simp only [Bool.or_eq_true, decide_eq_true_eq, List.mem_cons]
    have : a.toNat = k ↔ (k : Int) = a := by omega
    rw [this, or_assoc]
/-- how many tests are not among some -/
def uc (so : Nat) : Nat → Nat
  | 0 => 0
  | i + 1 => uc so i + if so.testBit i then 0 else 1
theorem uc_zero : ∀ n, uc 0 n = n
  | 0 => rfl
  | n + 1 => by simp [uc, uc_zero n]
theorem uc_congr {a b : Nat} : ∀ {n}, (∀ k, k < n → a.testBit k = b.testBit k) → uc a n = uc b n
  | 0, _ => rfl
  | n + 1, h => by simp only [uc]; rw [uc_congr (fun k hk => h k (by omega)), h n (by omega)]
theorem uc_or {so a : Nat} : ∀ {n}, a < n → so.testBit a = false → uc (so ||| 2 ^ a) n + 1 = uc so n
  | 0, h, _ => by omega
  | n + 1, h, hb => by
    simp only [uc]
    by_cases e : a = n
    · subst e
      rw [uc_congr (a := so ||| 2 ^ a) (b := so) (fun k hk => by rw [or_bit, decide_eq_false (by omega), Bool.or_false]), or_bit, hb]
      simp
    · have := uc_or (so := so) (a := a) (n := n) (by omega) hb
      rw [or_bit, decide_eq_false e, Bool.or_false]
      omega
theorem uc_all {so : Nat} : ∀ {n}, uc so n = 0 → ∀ k, k < n → so.testBit k = true
  | 0, _, k, hk => by omega
  | n + 1, h, k, hk => by
    simp only [uc] at h
    rcases Nat.lt_succ_iff_lt_or_eq.1 hk with q | rfl
    · exact uc_all (n := n) (by omega) k q
    · cases hb : so.testBit k with
      | true => rfl
      | false => rw [hb] at h; simp at h
theorem uc_setO {m : Int} (hm : 0 ≤ m) : ∀ {os : List Int} {so : Nat}, orS m so os = true → uc (setO so os) m.toNat + os.length = uc so m.toNat
  | [], _, _ => by simp [setO]
  | a :: r, so, h => by
    obtain ⟨h1, h2, h3⟩ := orS_cons.1 h
    have i := uc_setO hm (os := r) h3
    have u := uc_or (so := so) (a := a.toNat) (n := m.toNat) (by omega) h2
    simp only [setO, List.length_cons]; omega
theorem set_all {m : Int} {os : List Int} (h : orOk m os = true) : ∀ k, k < m.toNat → (setO 0 os).testBit k = true := by
  obtain ⟨h1, h2, h3⟩ := orOk_iff.1 h
  have u := uc_setO (by omega) h3
  rw [uc_zero] at u
  exact uc_all (by omega)
end
section
theorem orS_nodup {m : Int} : ∀ {os : List Int} {so : Nat}, orS m so os = true ↔ (∀ o ∈ os, (0 ≤ o ∧ o < m) ∧ so.testBit o.toNat = false) ∧ os.Nodup
  | [], so => by simp [orS]
  | a :: r, so => by
    rw [orS_cons, orS_nodup (os := r), List.nodup_cons]
    constructor
    · rintro ⟨h1, h2, h3, h4⟩
      refine ⟨fun o ho => ?_, fun hm => ?_, h4⟩
      · rcases List.mem_cons.1 ho with rfl | ho
        · exact ⟨h1, h2⟩
        · obtain ⟨q1, q2⟩ := h3 o ho
          rw [or_bit, Bool.or_eq_false_iff] at q2
          exact ⟨q1, q2.1⟩
      · have q := (h3 a hm).2
        rw [or_bit] at q; simp at q
    · rintro ⟨h1, h2, h3⟩
      obtain ⟨a1, a2⟩ := h1 a (by simp)
      refine ⟨a1, a2, fun o ho => ?_, h3⟩
      obtain ⟨q1, q2⟩ := h1 o (by simp [ho])
      refine ⟨q1, ?_⟩
      rw [or_bit, q2, Bool.false_or, decide_eq_false]
      intro e
      have : a = o := by omega
      exact h2 (this ▸ ho)
def rng (n : Nat) : List Int := (List.range n).map fun (k : Nat) => (k : Int)
theorem rng_len (n : Nat) : (rng n).length = n := by simp [rng]
theorem rng_succ (n : Nat) : rng (n + 1) = rng n ++ [(n : Int)] := by simp [rng, List.range_succ]
theorem mem_rng {n : Nat} {o : Int} : o ∈ rng n ↔ 0 ≤ o ∧ o < n := by
  unfold rng
  rw [List.mem_map]
  constructor
  · rintro ⟨k, h, rfl⟩; have := List.mem_range.1 h; omega
  · intro h; exact ⟨o.toNat, List.mem_range.2 (by omega), by omega⟩
theorem orOk_len {m : Int} {os : List Int} (h : orOk m os = true) : (os.length : Int) = m := (orOk_iff.1 h).2.1
end
section
def hkn (m : Nat) (ks : List Int) (so : Nat) : Prop := ∀ k, k < m → (ks[k]? = some (-1) ↔ so.testBit k = false)
def non (m : Nat) : List Int := List.replicate m (-1)
end
section
attribute [-simp] DV.cells sliceD
attribute [local simp] cells_st cells_sl cells_i cells_y cells_b cells_s cells_w
theorem hasTest_i {so : Nat} {a : Int} (h0 : 0 ≤ a) (h5 : a < 5) : call lf n_impl_hasTest [.i so, .i a] = some (.b (so.testBit a.toNat), []) := by
  have := c_impl_hasTest so a.toNat (by omega)
  rw [Int.toNat_of_nonneg h0] at this
  exact this
theorem or_i {so : Nat} {a : Int} (hs : so < 32) (h0 : 0 ≤ a) (h5 : a < 5) : orI (so : Int) (shlI 1 a) = ((so ||| 2 ^ a.toNat : Nat) : Int) := by
  rw [shl1 h0 (by omega)]
  exact or_nat hs (by omega)
theorem pow_le5 {m : Int} (h : 1 ≤ m ∧ m ≤ 5) : 2 ^ m.toNat ≤ 32 := (pow5 h.1 h.2).2.1
theorem l_impl_OrderOk {m : Int} (hm : 1 ≤ m ∧ m ≤ 5) (n : Int) (hb : n < 1099511627776) (es : List DV) (rest : List Int) : ∀ (k : Int) (so : Nat), so < 2 ^ m.toNat → 0 ≤ k → k + (rest.map DV.i).length = n → es.drop k.toNat = rest.map .i →
    ex lf F_impl_OrderOk_W0 ⟨[(0, .i m), (5, .i so), (17, .sl 0 es), (18, .i n), (19, .i k)], []⟩ =
    if orS m so rest = true then some (.exit 0, ⟨[(0, .i m), (5, .i (setO so rest : Nat)), (17, .sl 0 es), (18, .i n), (19, .i n)], []⟩) else some (.ret, ⟨[(4, .b false)], []⟩) := by
  have p5 := pow_le5 hm
  induction rest with
  | nil =>
    intro k so hs h0 hn hd
    rw [w_impl_OrderOk_0]
    have hk : k = n := by simpa using hn
    simp [F_impl_OrderOk_L0, hk, orS, setO]
  | cons a rest ih =>
    intro k so hs h0 hn hd
    obtain ⟨q1, q2, q3, q4, q5, q6⟩ := stp h0 hn hb hd
    have w : wr (m - 1) = m - 1 := wr_id (by omega) (by omega)
    rw [w_impl_OrderOk_0]
    by_cases ha : 0 ≤ a ∧ a < m
    · have e1 : decide (0 ≤ a ∧ a ≤ m - 1) = true := decide_eq_true (by omega)
      have e2 : decide (0 ≤ a ∧ a < m) = true := decide_eq_true ha
      have H := hasTest_i (so := so) ha.1 (by omega)
      have n0 : ¬ a < 0 := by omega
      have o := or_i (so := so) (by omega) ha.1 (by omega : a < 5)
      have ih := ih (k + 1) (so ||| 2 ^ a.toNat) (or_lt2 hs (by omega)) q4 q5 q6
      simp only [orS, e2, Bool.true_and, setO]
      cases hb : so.testBit a.toNat with
      | true =>
        rw [hb] at H
        simp [F_impl_OrderOk_L0, q1, q2, q3, w, c_impl_isWithin, e1, H]
      | false =>
        rw [hb] at H
        simp [F_impl_OrderOk_L0, q1, q2, q3, w, c_impl_isWithin, e1, H, n0, o, ih]
    · have e1 : decide (0 ≤ a ∧ a ≤ m - 1) = false := decide_eq_false (by omega)
      have e2 : decide (0 ≤ a ∧ a < m) = false := decide_eq_false ha
      simp only [orS, e2, Bool.false_and]
      simp [F_impl_OrderOk_L0, q1, q2, q3, w, c_impl_isWithin, e1]
theorem c_impl_OrderOk (m : Int) (os : List Int) (hb : (os.length : Int) < 1099511627776) : call lf n_impl_OrderOk [.i m, .sl 0 (os.map .i)] = some (.b (orOk m os), []) := by
  rw [call_k lf n_impl_OrderOk _ (F := F_impl_OrderOk) rfl rfl]
  unfold orOk
  cases h1 : nOk m with
  | false => simp [F_impl_OrderOk, c_impl_manyOk, h1]
  | true =>
    by_cases h2 : (os.length : Int) = m
    · have L := l_impl_OrderOk (nOk_iff.1 h1) os.length hb (os.map .i) os 0 0 (Nat.pow_pos (by omega)) (by omega) (by simp) (by simp)
      simp only [Int.natCast_zero] at L
      cases h3 : orS m 0 os <;> rw [h3] at L <;> simp at L <;> simp [F_impl_OrderOk, c_impl_manyOk, h1, h2, L, h3] <;> (subst h2; simp [L])
    · have y : ((os.length : Int) != m) = true := bne_iff_ne.2 h2
      simp [F_impl_OrderOk, c_impl_manyOk, h1, y, h2]
end
section
attribute [-simp] DV.cells
attribute [local simp] sliceD cells_st cells_sl cells_i cells_y cells_b cells_s cells_w
theorem ins_perm {p q : List Int} {i : Nat} (h : (p ++ q).Perm (rng i)) : (p ++ (i : Int) :: q).Perm (rng (i + 1)) := by
  rw [rng_succ]
  refine List.perm_middle.trans ?_
  refine (List.Perm.cons _ h).trans ?_
  exact (List.perm_append_singleton _ _).symm
theorem perm_len {us : List Int} {i : Nat} (h : us.Perm (rng i)) : us.length = i := by rw [h.length_eq, rng_len]
set_option maxHeartbeats 4000000 in
theorem l_l20Order {bs : List Nat} (hb : ∀ y ∈ bs, y < 256) (hl : bs.length ≤ 2000) (m : Nat) (hm : m ≤ 5) (n : Int) (j : Nat) : ∀ (i : Nat) (p : Int) (K : Nat) (os : List Int), (K = 5640 ∨ K = 11272) → 0 ≤ p → p + j < 900000 → i + j = m → os.Perm (rng i) →
    ∃ us : List Int, us.Perm (rng m) ∧
    ex lf F_spec_l20Order_W0 ⟨[(0, .oad 23 1 0 0), (1, .i m), (2, .i n), (7, .own K i 0 i), (8, .i i)], [(23, [.st [.sl 0 (bs.map .y), .i p]]), (K, os.map .i)]⟩ =
      some (.exit 0, ⟨[(0, .oad 23 1 0 0), (1, .i m), (2, .i n), (7, .own 5640 m 0 m), (8, .i m)], [(23, [.st [.sl 0 (bs.map .y), .i (p + j)]]), (5640, us.map .i)]⟩) := by
  induction j with
  | zero =>
    intro i p K os hK h0 h1 h2 h3
    have : i = m := by omega
    subst this
    have lo := perm_len h3
    refine ⟨os, h3, ?_⟩
    rw [w_spec_l20Order_0]
    rcases hK with rfl | rfl <;> simp [F_spec_l20Order_L0, lo]
  | succ j ih =>
    intro i p K os hK h0 h1 h2 h3
    have lo := perm_len h3
    have b1 := pk_bound hb h0 (by omega : p ≤ 1000000) (by omega : (1 : Int) ≤ (i : Int) + 1)
    have k1 := c_pick hb hl h0 (by omega : p < 1000000) (by omega : (1 : Int) ≤ (i : Int) + 1)
    obtain ⟨a, ha⟩ : ∃ a : Nat, pk bs p ((i : Int) + 1) = a := ⟨(pk bs p ((i : Int) + 1)).toNat, by omega⟩
    rw [ha] at k1 b1
    obtain ⟨x, y, rfl, rfl⟩ : ∃ x y, os = x ++ y ∧ x.length = a := ⟨os.take a, os.drop a, (List.take_append_drop a os).symm, by simp; omega⟩
    have P := ins_perm h3
    have w1 : wr ((i : Int) + 1) = (i : Int) + 1 := wr_id (by omega) (by omega)
    obtain ⟨us, u1, u2⟩ := ih (i + 1) (p + 1) 11272 (x ++ (i : Int) :: y) (.inr rfl) (by omega) (by omega) (by omega) P
    refine ⟨us, u1, ?_⟩
    rw [show p + ((j + 1 : Nat) : Int) = p + 1 + j by omega]
    have lxy : x.length + y.length = i := by simpa using lo
    have hlt : (i : Int) < m := by omega
    have c1 : x.length ≤ bound := by unfold bound; omega
    have c2 : x.length + 1 ≤ bound := by unfold bound; omega
    have c3 : i + 1 ≤ bound := by unfold bound; omega
    have xi : x.length ≤ i := by omega
    have xi' : (x.length : Int) ≤ i := by omega
    have t1 : ((x ++ y).map DV.i).take x.length = x.map .i := by simp
    have t2 : ((x ++ y).map DV.i).drop x.length = y.map .i := by simp
    have t3 : (x ++ y).map DV.i = ((x ++ y).map DV.i).take i := (List.take_of_length_le (by simp; omega)).symm
    have t4 : List.take i ((x ++ y).map DV.i) = (x ++ y).map DV.i := t3.symm
    have hL : ((x ++ y).map DV.i).length = i := by simp; omega
    have e1 : x.length + 1 + y.length = i + 1 := by omega
    rw [w_spec_l20Order_0]
    simp only [Int.natCast_add, Int.natCast_one, List.map_append, List.map_cons] at u2
    have n0 : ¬ (i < x.length) := by omega
    generalize (x ++ y).map DV.i = L at *
    rcases hK with rfl | rfl <;> simp [F_spec_l20Order_L0, hlt, lo, k1, w1, hL, t1, t2, t4, c1, c2, c3, xi, xi', e1, u2]
end
section
theorem rng_nodup (n : Nat) : (rng n).Nodup := List.Pairwise.map _ (fun a b h e => h (by omega)) (List.nodup_range (n := n))
theorem or_perm {m : Int} {os : List Int} (h : orOk m os = true) : os.Perm (rng m.toNat) := by
  obtain ⟨g1, g2, g3⟩ := orOk_iff.1 h
  obtain ⟨n1, n2⟩ := orS_nodup.1 g3
  refine (List.perm_ext_iff_of_nodup n2 (rng_nodup _)).2 fun o => ?_
  constructor
  · intro ho
    exact mem_rng.2 (by have := (n1 o ho).1; omega)
  · intro ho
    have hr := mem_rng.1 ho
    have := set_all h o.toNat (by omega)
    rw [setO_bit (fun x hx => (n1 x hx).1.1)] at this
    rcases this with q | q
    · simp at q
    · rwa [Int.toNat_of_nonneg hr.1] at q
end
section
def fl (s : Int) (i : Nat) : Bool := s / 2 ^ i % 2 == 1
def onceM : List T → Int → Bool
  | [], _ => true
  | t :: r, s => if t.1 = 0 then (!fl s t.2.toNat && onceM r (orI s (2 ^ t.2.toNat))) else onceM r s
def onceOk (m : Int) (ts : List T) : Bool := tmOk m ts && onceM ts 0
theorem or_fl : ∀ (s : Fin 32) (a : Fin 5) (i : Fin 5), 0 ≤ orI s (2 ^ a.val) ∧ orI s (2 ^ a.val) < 32 ∧ fl (orI s (2 ^ a.val)) i.val = (if i = a then true else fl s i.val) := by decide +kernel
theorem or_flag {s a : Int} (s0 : 0 ≤ s) (s1 : s < 32) (a0 : 0 ≤ a) (a1 : a < 5) : (0 ≤ orI s (2 ^ a.toNat) ∧ orI s (2 ^ a.toNat) < 32) ∧ ∀ i : Nat, i < 5 → fl (orI s (2 ^ a.toNat)) i = (if (i : Int) = a then true else fl s i) := by
  have key := fun i => or_fl ⟨s.toNat, by omega⟩ ⟨a.toNat, by omega⟩ i
  simp only [Int.toNat_of_nonneg s0] at key
  refine ⟨⟨(key 0).1, (key 0).2.1⟩, fun i hi => ?_⟩
  have := (key ⟨i, hi⟩).2.2
  simp only at this
  rw [this]
  by_cases h : (i : Int) = a
  · rw [if_pos h, if_pos (by apply Fin.ext; show i = a.toNat; omega)]
  · rw [if_neg h, if_neg (by intro e; have := congrArg Fin.val e; simp only at this; omega)]
set_option maxHeartbeats 4000000 in
theorem l_impl_OnceOk (n : Int) (hb : n < 1099511627776) (es : List DV) (rest : List T) (hr : ∀ t ∈ rest, t.1 = 0 → 0 ≤ t.2 ∧ t.2 < 5) : ∀ (k s : Int) (f0 f1 f2 f3 f4 : Bool), 0 ≤ k → k + (rest.map e2).length = n → es.drop k.toNat = rest.map e2 → 0 ≤ s → s < 32 →
    fl s 0 = f0 → fl s 1 = f1 → fl s 2 = f2 → fl s 3 = f3 → fl s 4 = f4 →
    ∃ q, ex lf F_impl_OnceOk_W0 ⟨[(5, .oad 2600 1 0 0), (12, .sl 0 es), (13, .i n), (14, .i k)], [(2600, [.st [.b f0, .b f1, .b f2, .b f3, .b f4]])]⟩ =
    if onceM rest s then some (.exit 0, ⟨[(5, .oad 2600 1 0 0), (12, .sl 0 es), (13, .i n), (14, .i n)], [(2600, [q])]⟩) else some (.ret, ⟨[(4, .b false)], []⟩) := by
  induction rest with
  | nil =>
    intro k s f0 f1 f2 f3 f4 h0 hn hd _ _ _ _ _ _ _
    refine ⟨.st [.b f0, .b f1, .b f2, .b f3, .b f4], ?_⟩
    rw [w_impl_OnceOk_0]
    have hk : k = n := by simpa using hn
    simp [F_impl_OnceOk_L0, hk, onceM]
  | cons t rest ih =>
    intro k s f0 f1 f2 f3 f4 h0 hn hd s0 s1 g0 g1 g2 g3 g4
    obtain ⟨q1, q2, q3, q4, q5, q6⟩ := stp h0 hn hb hd
    simp only [e2] at q2
    have ih := ih (fun u hu => hr u (List.mem_cons_of_mem _ hu)) (k + 1)
    by_cases k0 : t.1 = 0
    · have b := hr t (List.mem_cons_self ..) k0
      obtain ⟨⟨o0, o1⟩, of⟩ := or_flag s0 s1 b.1 b.2
      have ih := ih (orI s (2 ^ t.2.toNat))
      have key : ∀ j : Nat, t.2 = j → fl s t.2.toNat = fl s j := by
        intro j hj
        rw [hj]; rfl
      have c5 : t.2 = 0 ∨ t.2 = 1 ∨ t.2 = 2 ∨ t.2 = 3 ∨ t.2 = 4 := by omega
      have ow : onceM (t :: rest) s = (!fl s t.2.toNat && onceM rest (orI s (2 ^ t.2.toNat))) := by simp only [onceM, if_pos k0]
      have n0 := of 0 (by omega)
      have n1 := of 1 (by omega)
      have n2 := of 2 (by omega)
      have n3 := of 3 (by omega)
      have n4 := of 4 (by omega)
      rcases c5 with c | c | c | c | c
      · rw [key 0 c, g0] at ow
        rw [c] at n0 n1 n2 n3 n4
        simp only [g0, g1, g2, g3, g4] at n0 n1 n2 n3 n4
        cases f0 with
        | true =>
          refine ⟨.dead, ?_⟩
          rw [w_impl_OnceOk_0, ow]
          simp [F_impl_OnceOk_L0, q1, q2, q3, k0, c]
        | false =>
          obtain ⟨q, ih⟩ := ih true f1 f2 f3 f4 q4 q5 q6 o0 o1 (by rw [c]; exact n0) (by rw [c]; exact n1) (by rw [c]; exact n2) (by rw [c]; exact n3) (by rw [c]; exact n4)
          refine ⟨q, ?_⟩
          generalize onceM rest (orI s (2 ^ t.2.toNat)) = z at ih ow
          rw [w_impl_OnceOk_0, ow]
          simp [F_impl_OnceOk_L0, q1, q2, q3, k0, c, ih]
      · rw [key 1 c, g1] at ow
        rw [c] at n0 n1 n2 n3 n4
        simp only [g0, g1, g2, g3, g4] at n0 n1 n2 n3 n4
        cases f1 with
        | true =>
          refine ⟨.dead, ?_⟩
          rw [w_impl_OnceOk_0, ow]
          simp [F_impl_OnceOk_L0, q1, q2, q3, k0, c]
        | false =>
          obtain ⟨q, ih⟩ := ih f0 true f2 f3 f4 q4 q5 q6 o0 o1 (by rw [c]; exact n0) (by rw [c]; exact n1) (by rw [c]; exact n2) (by rw [c]; exact n3) (by rw [c]; exact n4)
          refine ⟨q, ?_⟩
          generalize onceM rest (orI s (2 ^ t.2.toNat)) = z at ih ow
          rw [w_impl_OnceOk_0, ow]
          simp [F_impl_OnceOk_L0, q1, q2, q3, k0, c, ih]
      · rw [key 2 c, g2] at ow
        rw [c] at n0 n1 n2 n3 n4
        simp only [g0, g1, g2, g3, g4] at n0 n1 n2 n3 n4
        cases f2 with
        | true =>
          refine ⟨.dead, ?_⟩
          rw [w_impl_OnceOk_0, ow]
          simp [F_impl_OnceOk_L0, q1, q2, q3, k0, c]
        | false =>
          obtain ⟨q, ih⟩ := ih f0 f1 true f3 f4 q4 q5 q6 o0 o1 (by rw [c]; exact n0) (by rw [c]; exact n1) (by rw [c]; exact n2) (by rw [c]; exact n3) (by rw [c]; exact n4)
          refine ⟨q, ?_⟩
          generalize onceM rest (orI s (2 ^ t.2.toNat)) = z at ih ow
          rw [w_impl_OnceOk_0, ow]
          simp [F_impl_OnceOk_L0, q1, q2, q3, k0, c, ih]
      · rw [key 3 c, g3] at ow
        rw [c] at n0 n1 n2 n3 n4
        simp only [g0, g1, g2, g3, g4] at n0 n1 n2 n3 n4
        cases f3 with
        | true =>
          refine ⟨.dead, ?_⟩
          rw [w_impl_OnceOk_0, ow]
          simp [F_impl_OnceOk_L0, q1, q2, q3, k0, c]
        | false =>
          obtain ⟨q, ih⟩ := ih f0 f1 f2 true f4 q4 q5 q6 o0 o1 (by rw [c]; exact n0) (by rw [c]; exact n1) (by rw [c]; exact n2) (by rw [c]; exact n3) (by rw [c]; exact n4)
          refine ⟨q, ?_⟩
          generalize onceM rest (orI s (2 ^ t.2.toNat)) = z at ih ow
          rw [w_impl_OnceOk_0, ow]
          simp [F_impl_OnceOk_L0, q1, q2, q3, k0, c, ih]
      · rw [key 4 c, g4] at ow
        rw [c] at n0 n1 n2 n3 n4
        simp only [g0, g1, g2, g3, g4] at n0 n1 n2 n3 n4
        cases f4 with
        | true =>
          refine ⟨.dead, ?_⟩
          rw [w_impl_OnceOk_0, ow]
          simp [F_impl_OnceOk_L0, q1, q2, q3, k0, c]
        | false =>
          obtain ⟨q, ih⟩ := ih f0 f1 f2 f3 true q4 q5 q6 o0 o1 (by rw [c]; exact n0) (by rw [c]; exact n1) (by rw [c]; exact n2) (by rw [c]; exact n3) (by rw [c]; exact n4)
          refine ⟨q, ?_⟩
          generalize onceM rest (orI s (2 ^ t.2.toNat)) = z at ih ow
          rw [w_impl_OnceOk_0, ow]
          simp [F_impl_OnceOk_L0, q1, q2, q3, k0, c, ih]
    · have k0' : (t.1 != 0) = true := bne_iff_ne.2 k0
      obtain ⟨q, ih⟩ := ih s f0 f1 f2 f3 f4 q4 q5 q6 s0 s1 g0 g1 g2 g3 g4
      refine ⟨q, ?_⟩
      have ow : onceM (t :: rest) s = onceM rest s := by simp only [onceM, if_neg k0]
      rw [w_impl_OnceOk_0, ow]
      simp [F_impl_OnceOk_L0, q1, q2, q3, k0', ih]
theorem c_impl_OnceOk (m : Int) (ts : List T) (hb : (ts.length : Int) < 1099511627776) : call lf n_impl_OnceOk [.i m, .sl 0 (ts.map e2)] = some (.b (onceOk m ts), []) := by
  rw [call_k lf n_impl_OnceOk _ (F := F_impl_OnceOk) rfl rfl]
  have C := c_impl_TermOk m ts hb
  cases h1 : tmOk m ts with
  | false => simp [F_impl_OnceOk, C, h1, onceOk]
  | true =>
    have h1' := tmOk_iff.1 h1
    obtain ⟨q, L⟩ := l_impl_OnceOk ts.length hb (ts.map e2) ts (fun t ht h0 => by have := runM_tests h1'.2.2 t ht h0; omega) 0 0 false false false false false (by omega) (by simp) (by simp) (by omega) (by omega) rfl rfl rfl rfl rfl
    cases h2 : onceM ts 0 <;> rw [h2] at L <;> simp [F_impl_OnceOk, C, h1, onceOk, L, h2]
end
section
attribute [-simp] DV.cells sliceD
attribute [local simp] cells_st cells_sl cells_i cells_y cells_b cells_s cells_w
def stW (us : List T) (tab : Nat) (os : List Int) (k : Nat) (ks : List Int) (w a sum sd : Int) : LS :=
  ⟨[(0, .sl 0 (us.map e2)), (1, .i tab), (2, .sl 0 (os.map .i)), (3, .i k), (4, .sl 0 (ks.map .i)), (5, .i w), (13, .i a), (14, .i sum), (15, .i sd)], []⟩
end
section
inductive PT where
  | stop
  | ask (k : Nat) (no yes : PT)
def fcd (m : Nat) (t : List T) (ks : List Int) : Bool := foT m t ks != -1
end
section
def occ (a : Nat) : Tm → Bool
  | .tst b => b == a
  | .neg x => occ a x
  | .and x y => occ a x || occ a y
  | .or x y => occ a x || occ a y
/-- no test twice -/
def ton : Tm → Prop
  | .tst _ => True
  | .neg x => ton x
  | .and x y => ton x ∧ ton y ∧ ∀ a, occ a x = true → occ a y = false
  | .or x y => ton x ∧ ton y ∧ ∀ a, occ a x = true → occ a y = false
/-- letters are the tests that occur -/
theorem fl_bit {s : Int} (h0 : 0 ≤ s) (i : Nat) : fl s i = s.toNat.testBit i := by
  obtain ⟨n, rfl⟩ := Int.eq_ofNat_of_zero_le h0
  unfold fl
  rw [div_bI, bI_eq1]; simp
theorem lett_occ {m : Int} (h1 : 1 ≤ m) (h5 : m ≤ 5) : ∀ {x : Tm}, tb m x → ∀ {s : Int}, 0 ≤ s → s < 2 ^ m.toNat → (0 ≤ (flt x).foldl letF s ∧ (flt x).foldl letF s < 2 ^ m.toNat) ∧ ∀ a, ((flt x).foldl letF s).toNat.testBit a = (s.toNat.testBit a || occ a x)
  | .tst b, hb, s, h0, h2 => by
    have hb' : (b : Int) < m := hb
    have e : (flt (.tst b)).foldl letF s = orI s (2 ^ b) := by simp [flt, letF]
    have hp : ((2 ^ b : Nat) : Int) = 2 ^ b := by simp
    have hk2 : (2 ^ b : Nat) < 2 ^ m.toNat := Nat.pow_lt_pow_right (by omega) (by omega)
    obtain ⟨p1, p2, p3⟩ := pow5 h1 h5
    obtain ⟨q1, q2, q3⟩ := or_lt h1 h5 h0 h2 (b := 2 ^ b) (by rw [← hp]; exact Int.natCast_nonneg _) (by rw [← hp]; omega)
    rw [e]
    refine ⟨⟨q1, q2⟩, fun a => ?_⟩
    rw [q3, ← hp, Int.toNat_natCast, Nat.testBit_or, Nat.testBit_two_pow]
    rfl
  | .neg x, hb, s, h0, h2 => by
    obtain ⟨q1, q2⟩ := lett_occ h1 h5 (x := x) hb h0 h2
    have e : (flt (.neg x)).foldl letF s = (flt x).foldl letF s := by simp [flt, letF]
    rw [e]
    exact ⟨q1, q2⟩
  | .and x y, hb, s, h0, h2 => by
    obtain ⟨q1, q2⟩ := lett_occ h1 h5 (x := x) hb.1 h0 h2
    obtain ⟨r1, r2⟩ := lett_occ h1 h5 (x := y) hb.2 q1.1 q1.2
    have e : (flt (.and x y)).foldl letF s = (flt y).foldl letF ((flt x).foldl letF s) := by simp [flt, letF]
    rw [e]
    exact ⟨r1, fun a => by rw [r2, q2]; simp only [occ, Bool.or_assoc]⟩
  | .or x y, hb, s, h0, h2 => by
    obtain ⟨q1, q2⟩ := lett_occ h1 h5 (x := x) hb.1 h0 h2
    obtain ⟨r1, r2⟩ := lett_occ h1 h5 (x := y) hb.2 q1.1 q1.2
    have e : (flt (.or x y)).foldl letF s = (flt y).foldl letF ((flt x).foldl letF s) := by simp [flt, letF]
    rw [e]
    exact ⟨r1, fun a => by rw [r2, q2]; simp only [occ, Bool.or_assoc]⟩
end
section
abbrev C3 := Int × Int × Int
/-- a tree with the places of its choices -/
inductive LT where
  | stop
  | ask (p k : Nat) (no yes : LT)
def LT.size : LT → Nat
  | .stop => 0
  | .ask _ _ n y => 1 + n.size + y.size
/-- where one may go on to from a place -/
def nxt (N : Nat) (p : Nat) (a : Int) : Prop := a = -1 ∨ ((p : Int) + 1 ≤ a ∧ a ≤ (N : Int) - 1)
instance (N p : Nat) (a : Int) : Decidable (nxt N p a) := by unfold nxt; infer_instance
/-- the row holds the tree, from a place on -/
def enc (P : List C3) : Int → LT → Prop
  | a, .stop => a = -1
  | a, .ask p k n y => a = (p : Int) ∧ ∃ no ye, P[p]? = some ((k : Int), no, ye) ∧ nxt P.length p no ∧ nxt P.length p ye ∧ enc P no n ∧ enc P ye y
/-- where a row goes on to -/
def rfs : List C3 → List Int
  | [] => []
  | (_, no, ye) :: r => (if no = -1 then [] else [no]) ++ (if ye = -1 then [] else [ye]) ++ rfs r
end
section
def PT.size : PT → Nat
  | .stop => 0
  | .ask _ n y => 1 + n.size + y.size
def rot (P : List C3) : Int := if P = [] then -1 else 0
end
section
attribute [-simp] DV.cells
attribute [local simp] sliceD cells_st cells_sl cells_i cells_y cells_b cells_s cells_w
theorem lend_e3 (P : List C3) : lendL (P.map e3) = P.map e3 := by rw [lendL_map, List.map_map]; rfl
theorem adopt_e3 (o : Bool) (P : List C3) : adoptL o (P.map e3) = P.map e3 := by rw [adoptL_map, List.map_map]; rfl
theorem new_e3 (P : List C3) : allNewL (P.map e3) = true := by rw [allNewL_all, List.all_map, List.all_eq_true]; intro x _; rfl
theorem al_e3 (P : List C3) : allOldL (P.map e3) = true := by rw [allOldL_all, List.all_map, List.all_eq_true]; intro x _; rfl
theorem lt_e3 (n : Nat) (P : List C3) : lendL (List.take n (P.map e3)) = List.take n (P.map e3) := by rw [← List.map_take, lend_e3]
attribute [local simp] lend_e3 adopt_e3 new_e3 al_e3 lt_e3
def C3.nx (c : C3) (b : Bool) : Int := if b then c.2.2 else c.2.1
end
section
def aN : List Int → Nat
  | [] => 0
  | k :: r => (if k = -1 then 0 else 1) + 2 * aN r
def kn : List Int → Nat
  | [] => 0
  | k :: r => (if k = -1 then 0 else 1) + kn r
/-- what agrees, as a number -/
def lfW (ks : List Int) : BitVec 32 := agW ks 0 (4294967295#32)
end
section
abbrev Pts := List (Option (List Int))
/-- one goes on to where it is noted -/
def go3 (m : Nat) (t : List T) (N : Nat) (pts : Pts) (p : Int) (a : Int) (ks : List Int) : Prop :=
  (a = -1 ∧ fcd m t ks = true) ∨ (p + 1 ≤ a ∧ a ≤ (N : Int) - 1 ∧ pts[a.toNat]? = some (some ks))
structure Inv (m : Nat) (t : List T) (P : List C3) (p : Nat) (pts : Pts) : Prop where
  len : pts.length = P.length
  nd : (rfs (P.take p)).Nodup
  rng : ∀ a ∈ rfs (P.take p), 1 ≤ a ∧ a < P.length
  iff_ : ∀ a : Nat, a < P.length → (pts[a]? ≠ some none ↔ (a = 0 ∨ (a : Int) ∈ rfs (P.take p)))
  ok : ∀ (a : Nat) (ks : List Int), pts[a]? = some (some ks) → ks.length = m ∧ ks.all kOk = true ∧ fcd m t ks = false
  loc : ∀ q : Nat, q < p → ∃ (ks : List Int) (k no ye : Int), P[q]? = some (k, no, ye) ∧ pts[q]? = some (some ks) ∧ (0 ≤ k ∧ k < m) ∧ ks[k.toNat]? = some (-1) ∧ go3 m t P.length pts q no (ks.set k.toNat 0) ∧ go3 m t P.length pts q ye (ks.set k.toNat 1)
end
section
attribute [-simp] DV.cells
attribute [local simp] sliceD cells_st cells_sl cells_i cells_y cells_b cells_s cells_w
attribute [local simp] lend_e3 adopt_e3 new_e3 al_e3 lt_e3
def pv (m a : Int) (w v : BitVec 32) : DV := .st [.i m, .i a, .w w, .w v]
/-- the point at which so much is known -/
def pD (m : Nat) (t : List T) (ks : List Int) : DV := pv m (aN ks) (lfW ks) (tsW t)
end
section
attribute [-simp] DV.cells
attribute [local simp] sliceD cells_st cells_sl cells_i cells_y cells_b cells_s cells_w
attribute [local simp] lend_e3 adopt_e3 new_e3 al_e3 lt_e3
def e4 (m : Nat) (t : List T) : Option (List Int) → DV
  | some ks => pD m t ks
  | none => pv 0 0 (0#32) (0#32)
end
section
attribute [-simp] DV.cells
attribute [local simp] sliceD cells_st cells_sl cells_i cells_y cells_b cells_s cells_w
attribute [local simp] lend_e3 adopt_e3 new_e3 al_e3 lt_e3
structure Fin (m : Nat) (t : List T) (P : List C3) (L : LT) (pts : Pts) : Prop where
  inv : Inv m t P P.length pts
  start : go3 m t P.length pts (-1) (rot P) (non m)
end
section
/-- groups: all tests, each once -/
structure Gok (m : Nat) (L : List (List Nat)) : Prop where
  lt : ∀ g ∈ L, ∀ k ∈ g, k < m
  nd : L.flatten.Nodup
  all : ∀ k, k < m → k ∈ L.flatten
  ne : ∀ g ∈ L, g ≠ []
/-- the value of groups -/
def gV (L : List (List Nat)) (s : Nat) : Bool := L.all fun g => g.any fun k => s.testBit k
end
section
theorem gok_len {m : Nat} {L : List (List Nat)} (G : Gok m L) : L.flatten.length = m := by
  have : L.flatten.Perm (List.range m) := (List.perm_ext_iff_of_nodup G.nd List.nodup_range).2 fun k => by
    rw [List.mem_range]
    refine ⟨fun hk => ?_, G.all k⟩
    obtain ⟨g, h1, h2⟩ := List.mem_flatten.1 hk
    exact G.lt g h1 k h2
  rw [this.length_eq, List.length_range]
end
section
def orL : List Nat → List T
  | [] => []
  | k :: r => (0, (k : Int)) :: r.flatMap fun (j : Nat) => [(0, (j : Int)), (3, 0)]
def grL : List (List Nat) → List T
  | [] => []
  | g :: R => orL g ++ R.flatMap fun h => orL h ++ [(2, 0)]
def orX (x : Tm) (r : List Nat) : Tm := r.foldl (fun x j => .or x (.tst j)) x
def orTm : List Nat → Tm
  | [] => .tst 0
  | k :: r => orX (.tst k) r
def anX (x : Tm) (R : List (List Nat)) : Tm := R.foldl (fun x h => .and x (orTm h)) x
def grTm : List (List Nat) → Tm
  | [] => .tst 0
  | g :: R => anX (orTm g) R
theorem flt_orX : ∀ (r : List Nat) (x : Tm), flt (orX x r) = flt x ++ r.flatMap fun (j : Nat) => [(0, (j : Int)), (3, 0)]
  | [], x => by simp [orX]
  | k :: r, x => by
    have ih := flt_orX r (.or x (.tst k))
    have e : orX x (k :: r) = orX (.or x (.tst k)) r := rfl
    rw [e, ih]
    simp [flt]
theorem flt_orTm {g : List Nat} (h : g ≠ []) : flt (orTm g) = orL g := by
  cases g with
  | nil => exact absurd rfl h
  | cons k r => simp only [orTm, orL]; rw [flt_orX]; rfl
theorem flt_anX : ∀ (R : List (List Nat)) (x : Tm), (∀ g ∈ R, g ≠ []) → flt (anX x R) = flt x ++ R.flatMap fun h => orL h ++ [(2, 0)]
  | [], x, _ => by simp [anX]
  | g :: R, x, h => by
    have ih := flt_anX R (.and x (orTm g)) fun y hy => h y (List.mem_cons_of_mem _ hy)
    have e : anX x (g :: R) = anX (.and x (orTm g)) R := rfl
    rw [e, ih]
    simp [flt, flt_orTm (h g List.mem_cons_self)]
theorem flt_grTm {L : List (List Nat)} (hL : L ≠ []) (h : ∀ g ∈ L, g ≠ []) : flt (grTm L) = grL L := by
  cases L with
  | nil => exact absurd rfl hL
  | cons g R =>
    simp only [grTm, grL]
    rw [flt_anX R _ fun y hy => h y (List.mem_cons_of_mem _ hy), flt_orTm (h g List.mem_cons_self)]
theorem tb_orX {m : Int} : ∀ (r : List Nat) (x : Tm), tb m x → (∀ k ∈ r, (k : Int) < m) → tb m (orX x r)
  | [], x, hx, _ => hx
  | k :: r, x, hx, h => tb_orX r (.or x (.tst k)) ⟨hx, h k List.mem_cons_self⟩ fun j hj => h j (List.mem_cons_of_mem _ hj)
theorem tb_orTm {m : Int} {g : List Nat} (hg : g ≠ []) (h : ∀ k ∈ g, (k : Int) < m) : tb m (orTm g) := by
  cases g with
  | nil => exact absurd rfl hg
  | cons k r => exact tb_orX r (.tst k) (h k List.mem_cons_self) fun j hj => h j (List.mem_cons_of_mem _ hj)
theorem tb_anX {m : Int} : ∀ (R : List (List Nat)) (x : Tm), tb m x → (∀ g ∈ R, g ≠ []) → (∀ g ∈ R, ∀ k ∈ g, (k : Int) < m) → tb m (anX x R)
  | [], x, hx, _, _ => hx
  | g :: R, x, hx, hn, h => tb_anX R (.and x (orTm g)) ⟨hx, tb_orTm (hn g List.mem_cons_self) (h g List.mem_cons_self)⟩ (fun y hy => hn y (List.mem_cons_of_mem _ hy)) fun y hy => h y (List.mem_cons_of_mem _ hy)
theorem tb_grTm {m : Int} {L : List (List Nat)} (hL : L ≠ []) (hn : ∀ g ∈ L, g ≠ []) (h : ∀ g ∈ L, ∀ k ∈ g, (k : Int) < m) : tb m (grTm L) := by
  cases L with
  | nil => exact absurd rfl hL
  | cons g R => exact tb_anX R _ (tb_orTm (hn g List.mem_cons_self) (h g List.mem_cons_self)) (fun y hy => hn y (List.mem_cons_of_mem _ hy)) fun y hy => h y (List.mem_cons_of_mem _ hy)
theorem ev_orX (s : Nat) : ∀ (r : List Nat) (x : Tm), ev s (orX x r) = (ev s x || r.any fun k => s.testBit k)
  | [], x => by simp [orX]
  | k :: r, x => by
    have e : orX x (k :: r) = orX (.or x (.tst k)) r := rfl
    rw [e, ev_orX s r]
    simp [ev, Bool.or_assoc]
theorem ev_orTm (s : Nat) {g : List Nat} (h : g ≠ []) : ev s (orTm g) = g.any fun k => s.testBit k := by
  cases g with
  | nil => exact absurd rfl h
  | cons k r => simp only [orTm]; rw [ev_orX]; simp [ev]
theorem ev_anX (s : Nat) : ∀ (R : List (List Nat)) (x : Tm), (∀ g ∈ R, g ≠ []) → ev s (anX x R) = (ev s x && gV R s)
  | [], x, _ => by simp [anX, gV]
  | g :: R, x, h => by
    have e : anX x (g :: R) = anX (.and x (orTm g)) R := rfl
    rw [e, ev_anX s R _ fun y hy => h y (List.mem_cons_of_mem _ hy)]
    simp [ev, gV, ev_orTm s (h g List.mem_cons_self), Bool.and_assoc]
theorem ev_grTm (s : Nat) {L : List (List Nat)} (hL : L ≠ []) (h : ∀ g ∈ L, g ≠ []) : ev s (grTm L) = gV L s := by
  cases L with
  | nil => exact absurd rfl hL
  | cons g R =>
    simp only [grTm]
    rw [ev_anX s R _ fun y hy => h y (List.mem_cons_of_mem _ hy), ev_orTm s (h g List.mem_cons_self)]
    simp [gV]
theorem occ_orX (a : Nat) : ∀ (r : List Nat) (x : Tm), occ a (orX x r) = true ↔ occ a x = true ∨ a ∈ r
  | [], x => by simp [orX]
  | k :: r, x => by
    have e : orX x (k :: r) = orX (.or x (.tst k)) r := rfl
    rw [e, occ_orX a r]
    have ek : (k = a) = (a = k) := propext eq_comm
    simp only [occ, Bool.or_eq_true, beq_iff_eq, List.mem_cons, or_assoc, ek]
theorem occ_orTm (a : Nat) {g : List Nat} (h : g ≠ []) : occ a (orTm g) = true ↔ a ∈ g := by
  cases g with
  | nil => exact absurd rfl h
  | cons k r =>
    simp only [orTm]
    rw [occ_orX]
    have ek : (k = a) = (a = k) := propext eq_comm
    simp only [occ, beq_iff_eq, List.mem_cons, ek]
theorem occ_anX (a : Nat) : ∀ (R : List (List Nat)) (x : Tm), (∀ g ∈ R, g ≠ []) → (occ a (anX x R) = true ↔ occ a x = true ∨ a ∈ R.flatten)
  | [], x, _ => by simp [anX]
  | g :: R, x, h => by
    have e : anX x (g :: R) = anX (.and x (orTm g)) R := rfl
    rw [e, occ_anX a R _ fun y hy => h y (List.mem_cons_of_mem _ hy)]
    simp only [occ, Bool.or_eq_true, List.flatten_cons, List.mem_append, or_assoc]
    rw [occ_orTm a (h g List.mem_cons_self)]
theorem occ_grTm (a : Nat) {L : List (List Nat)} (hL : L ≠ []) (h : ∀ g ∈ L, g ≠ []) : occ a (grTm L) = true ↔ a ∈ L.flatten := by
  cases L with
  | nil => exact absurd rfl hL
  | cons g R =>
    simp only [grTm]
    rw [occ_anX a R _ fun y hy => h y (List.mem_cons_of_mem _ hy), occ_orTm a (h g List.mem_cons_self)]
    simp
theorem ton_orX : ∀ (r : List Nat) (x : Tm), ton x → r.Nodup → (∀ k ∈ r, occ k x = false) → ton (orX x r)
  | [], x, hx, _, _ => hx
  | k :: r, x, hx, nd, h => by
    obtain ⟨n1, n2⟩ := List.nodup_cons.1 nd
    refine ton_orX r (.or x (.tst k)) ⟨hx, trivial, fun a ha => ?_⟩ n2 fun j hj => ?_
    · simp only [occ]
      rw [beq_eq_false_iff_ne]
      intro e
      have := h k List.mem_cons_self
      rw [e, ha] at this
      cases this
    · simp only [occ]
      rw [h j (List.mem_cons_of_mem _ hj), Bool.false_or, beq_eq_false_iff_ne]
      intro e
      exact n1 (by rw [e]; exact hj)
theorem ton_orTm {g : List Nat} (nd : g.Nodup) : ton (orTm g) := by
  cases g with
  | nil => trivial
  | cons k r =>
    obtain ⟨n1, n2⟩ := List.nodup_cons.1 nd
    refine ton_orX r (.tst k) trivial n2 fun j hj => ?_
    simp only [occ]
    rw [beq_eq_false_iff_ne]
    intro e
    exact n1 (by rw [e]; exact hj)
theorem ton_anX : ∀ (R : List (List Nat)) (x : Tm), ton x → R.flatten.Nodup → (∀ g ∈ R, g ≠ []) → (∀ k ∈ R.flatten, occ k x = false) → ton (anX x R)
  | [], x, hx, _, _, _ => hx
  | g :: R, x, hx, nd, hn, h => by
    rw [List.flatten_cons] at nd h
    obtain ⟨n1, n2, n3⟩ := List.nodup_append.1 nd
    refine ton_anX R (.and x (orTm g)) ⟨hx, ton_orTm n1, fun a ha => ?_⟩ n2 (fun y hy => hn y (List.mem_cons_of_mem _ hy)) fun k hk => ?_
    · rw [← Bool.not_eq_true, occ_orTm a (hn g List.mem_cons_self)]
      intro q
      rw [h a (List.mem_append_left _ q)] at ha
      cases ha
    · simp only [occ]
      rw [h k (List.mem_append_right _ hk), Bool.false_or, ← Bool.not_eq_true, occ_orTm k (hn g List.mem_cons_self)]
      intro q
      exact n3 k q k hk rfl
theorem ton_grTm {L : List (List Nat)} (nd : L.flatten.Nodup) (hn : ∀ g ∈ L, g ≠ []) : ton (grTm L) := by
  cases L with
  | nil => trivial
  | cons g R =>
    rw [List.flatten_cons] at nd
    obtain ⟨n1, n2, n3⟩ := List.nodup_append.1 nd
    refine ton_anX R _ (ton_orTm n1) n2 (fun y hy => hn y (List.mem_cons_of_mem _ hy)) fun k hk => ?_
    rw [← Bool.not_eq_true, occ_orTm k (hn g List.mem_cons_self)]
    intro q
    exact n3 k q k hk rfl
theorem ton_once {m : Int} (h1 : 1 ≤ m) (h5 : m ≤ 5) : ∀ {x : Tm}, tb m x → ∀ {s : Int} {r : List T}, 0 ≤ s → s < 2 ^ m.toNat → ton x → (∀ a, occ a x = true → s.toNat.testBit a = false) → onceM r ((flt x).foldl letF s) = true → onceM (flt x ++ r) s = true
  | .tst b, hb, s, r, h0, h2, _, ha, h => by
    have := ha b (by simp [occ])
    rw [← fl_bit h0] at this
    simp [flt, onceM, this]
    simpa [flt, letF] using h
  | .neg x, hb, s, r, h0, h2, ht, ha, h => by
    rw [flt, List.append_assoc]
    refine ton_once h1 h5 (x := x) hb h0 h2 ht ha ?_
    simp [onceM]
    simpa [flt, letF] using h
  | .and x y, hb, s, r, h0, h2, ht, ha, h => by
    rw [flt, List.append_assoc, List.append_assoc]
    obtain ⟨l1, l2⟩ := lett_occ h1 h5 (x := x) hb.1 h0 h2
    refine ton_once h1 h5 (x := x) hb.1 h0 h2 ht.1 (fun a q => ha a (by simp [occ, q])) ?_
    refine ton_once h1 h5 (x := y) hb.2 l1.1 l1.2 ht.2.1 (fun a q => ?_) ?_
    · rw [l2, ha a (by simp [occ, q]), Bool.false_or]
      cases hx : occ a x with
      | false => rfl
      | true => rw [ht.2.2 a hx] at q; cases q
    · simp [onceM]
      simpa [flt, letF] using h
  | .or x y, hb, s, r, h0, h2, ht, ha, h => by
    rw [flt, List.append_assoc, List.append_assoc]
    obtain ⟨l1, l2⟩ := lett_occ h1 h5 (x := x) hb.1 h0 h2
    refine ton_once h1 h5 (x := x) hb.1 h0 h2 ht.1 (fun a q => ha a (by simp [occ, q])) ?_
    refine ton_once h1 h5 (x := y) hb.2 l1.1 l1.2 ht.2.1 (fun a q => ?_) ?_
    · rw [l2, ha a (by simp [occ, q]), Bool.false_or]
      cases hx : occ a x with
      | false => rfl
      | true => rw [ht.2.2 a hx] at q; cases q
    · simp [onceM]
      simpa [flt, letF] using h
theorem run_flt {m : Int} (h1 : 1 ≤ m) (h5 : m ≤ 5) : ∀ {x : Tm}, tb m x → ∀ (p : Int) (r : List T), 0 ≤ p → runM m p (flt x ++ r) = runM m (p + 1) r
  | .tst a, hb, p, r, hp => by
    have hb' : (a : Int) < m := hb
    simp [flt, runM, mkS]
    grind
  | .neg x, hb, p, r, hp => by
    rw [flt, List.append_assoc, run_flt h1 h5 (x := x) hb p _ hp]
    simp [runM, mkS]
    grind
  | .and x y, hb, p, r, hp => by
    rw [flt, List.append_assoc, List.append_assoc, run_flt h1 h5 (x := x) hb.1 p _ hp, run_flt h1 h5 (x := y) hb.2 (p + 1) _ (by omega)]
    simp [runM, mkS]
    grind
  | .or x y, hb, p, r, hp => by
    rw [flt, List.append_assoc, List.append_assoc, run_flt h1 h5 (x := x) hb.1 p _ hp, run_flt h1 h5 (x := y) hb.2 (p + 1) _ (by omega)]
    simp [runM, mkS]
    grind
theorem orL_len {g : List Nat} (h : g ≠ []) : (orL g).length + 1 = 2 * g.length := by
  cases g with
  | nil => exact absurd rfl h
  | cons k r =>
    simp only [orL, List.length_cons]
    clear h
    induction r with
    | nil => rfl
    | cons j r ih => simp only [List.flatMap_cons, List.length_append, List.length_cons, List.length_nil] at ih ⊢; omega
theorem grR_len : ∀ {R : List (List Nat)}, (∀ g ∈ R, g ≠ []) → (R.flatMap fun h => orL h ++ [(2, 0)]).length = 2 * R.flatten.length
  | [], _ => rfl
  | g :: R, h => by
    have ih := grR_len (R := R) fun y hy => h y (List.mem_cons_of_mem _ hy)
    have := orL_len (h g List.mem_cons_self)
    simp only [List.flatMap_cons, List.length_append, List.flatten_cons, List.length_cons, List.length_nil] at ih ⊢
    omega
theorem grL_len {L : List (List Nat)} (hL : L ≠ []) (h : ∀ g ∈ L, g ≠ []) : (grL L).length + 1 = 2 * L.flatten.length := by
  cases L with
  | nil => exact absurd rfl hL
  | cons g R =>
    have a := orL_len (h g List.mem_cons_self)
    have b := grR_len (R := R) fun y hy => h y (List.mem_cons_of_mem _ hy)
    simp only [grL, List.length_append, List.flatten_cons]
    omega
theorem gok_ne {m : Nat} (hm : 1 ≤ m) {L : List (List Nat)} (G : Gok m L) : L ≠ [] := fun e => by
  have := G.all 0 (by omega)
  rw [e] at this
  cases this
/-- the term of groups is a term, reads each test once, and all of them -/
theorem gr_term {m : Nat} (h1 : 1 ≤ m) (h5 : m ≤ 5) {L : List (List Nat)} (G : Gok m L) :
    tmOk m (grL L) = true ∧ onceOk m (grL L) = true ∧ letOf m (grL L) = 2 ^ m - 1 ∧ ∀ s, s < 2 ^ m → tv (grL L) s = gV L s := by
  have hL := gok_ne h1 G
  have hb := tb_grTm (m := m) hL G.ne fun g hg k hk => by have := G.lt g hg k hk; omega
  have hf := flt_grTm hL G.ne
  have ln := grL_len hL G.ne
  rw [gok_len G] at ln
  have tm : tmOk m (grL L) = true := tmOk_iff.2 ⟨by omega, by omega, by
    have := run_flt (m := m) (by omega) (by omega) hb 0 [] (by omega)
    rw [List.append_nil, hf] at this
    rw [this]
    rfl⟩
  obtain ⟨p1, p2, p3⟩ := pow5 (m := m) (by omega) (by omega)
  rw [Int.toNat_natCast] at p1 p2 p3
  have on : onceM (grL L) 0 = true := by
    have := ton_once (m := m) (by omega) (by omega) hb (s := 0) (r := []) (by omega) (by rw [Int.toNat_natCast]; omega) (ton_grTm G.nd G.ne) (fun a _ => by simp) rfl
    rwa [List.append_nil, hf] at this
  obtain ⟨l1, l2⟩ := lett_occ (m := m) (by omega) (by omega) hb (s := 0) (by omega) (by rw [Int.toNat_natCast]; omega)
  rw [hf] at l1 l2
  rw [Int.toNat_natCast] at l1
  refine ⟨tm, by unfold onceOk; rw [tm, on]; rfl, ?_, fun s hs => ?_⟩
  · unfold letOf lett
    rw [tm, if_pos rfl]
    have e : ((grL L).foldl letF 0).toNat = 2 ^ m - 1 := by
      apply Nat.eq_of_testBit_eq
      intro k
      rw [l2, Nat.testBit_two_pow_sub_one]
      by_cases hk : k < m
      · rw [(occ_grTm k hL G.ne).2 (G.all k hk)]
        simp [hk]
      · have : occ k (grTm L) = false := by
          rw [← Bool.not_eq_true, occ_grTm k hL G.ne]
          intro q
          obtain ⟨g, g1, g2⟩ := List.mem_flatten.1 q
          exact hk (G.lt g g1 k g2)
        rw [this]
        simp [hk]
    omega
  · have := tv_flt (m := m) (by omega) hb (s := s) (by omega)
    rw [hf, ev_grTm s hL G.ne] at this
    exact this
end
section
attribute [-simp] DV.cells
attribute [local simp] sliceD cells_st cells_sl cells_i cells_y cells_b cells_s cells_w
theorem lend_eR (L : List (List Int)) : lendL (L.map eR) = L.map eR := by
  rw [lendL_map, List.map_map]
  apply List.map_congr_left
  intro r _
  simp [eR, DV.lend]
theorem al_eR (L : List (List Int)) : allOldL (L.map eR) = true := by
  rw [allOldL_all, List.all_map, List.all_eq_true]
  intro r _
  simp [eR, DV.allOld]
attribute [local simp] lend_eR al_eR
def gokB (m : Int) (L : List (List Int)) : Bool := L.all (fun r => !r.isEmpty) && orOk m L.flatten
def gAl (m : Int) : Nat → List (List Int) → Bool
  | _, [] => true
  | n, r :: L => decide (1 ≤ (r.length : Int) ∧ (r.length : Int) ≤ m - n) && gAl m (n + r.length) L
theorem gAl_iff {m : Int} : ∀ {L : List (List Int)} {n : Nat}, (n : Int) ≤ m → (gAl m n L = true ↔ L.all (fun r => !r.isEmpty) = true ∧ ((n + L.flatten.length : Nat) : Int) ≤ m)
  | [], n, h => by simp [gAl, h]
  | r :: L, n, h => by
    simp only [gAl, Bool.and_eq_true, decide_eq_true_eq, List.all_cons, List.flatten_cons, List.length_append]
    by_cases hr : (r.length : Int) ≤ m - n
    · rw [gAl_iff (L := L) (n := n + r.length) (by omega)]
      cases r with
      | nil => simp
      | cons a r =>
        simp only [List.isEmpty_cons, Bool.not_false, true_and, List.length_cons] at *
        constructor
        · rintro ⟨_, h1, h2⟩; exact ⟨h1, by omega⟩
        · rintro ⟨h1, h2⟩; exact ⟨⟨by omega, by omega⟩, h1, by omega⟩
    · constructor
      · rintro ⟨⟨_, h2⟩, _⟩; exact absurd h2 hr
      · rintro ⟨_, h2⟩; omega
theorem gokB_al {m : Int} (hm : 1 ≤ m ∧ m ≤ 5) (L : List (List Int)) : gokB m L = (gAl m 0 L && orOk m L.flatten) := by
  unfold gokB
  cases h : orOk m L.flatten with
  | false => simp
  | true =>
    have := orOk_len h
    rw [Bool.and_true, Bool.and_true, Bool.eq_iff_iff, gAl_iff (by omega)]
    exact ⟨fun h => ⟨h, by omega⟩, fun h => h.1⟩
def stGk (m : Int) (L : List (List Int)) (acc : List Int) (k : Nat) : LS := ⟨[(0, .i m), (5, .own 2568 acc.length 0 acc.length), (11, .sl 0 (L.map eR)), (12, .i L.length), (13, .i k)], [(2568, acc.map .i)]⟩
theorem l_impl_GroupsOk {m : Int} (hm : 1 ≤ m ∧ m ≤ 5) (A : List (List Int)) (hb : (A.length : Int) < 1099511627776) : ∀ (L : List (List Int)) (k : Nat) (acc : List Int), (acc.length : Int) ≤ m → k + L.length = A.length → A.drop k = L →
    ex lf F_impl_GroupsOk_W0 (stGk m A acc k) = if gAl m acc.length L = true then some (.exit 0, stGk m A (acc ++ L.flatten) A.length) else some (.ret, ⟨[(4, .b false)], []⟩)
  | [], k, acc, ha, hk, hd => by
    have e : k = A.length := by simpa using hk
    subst e
    rw [w_impl_GroupsOk_0]
    simp [stGk, F_impl_GroupsOk_L0, gAl]
  | r :: L, k, acc, ha, hk, hd => by
    simp only [List.length_cons] at hk
    have hlt : (k : Int) < A.length := by omega
    have hd2 : A.drop (k + 1) = L := by rw [← List.drop_drop, hd]; rfl
    have hat : A[k]? = some r := by
      have := congrArg (fun l => l[0]?) hd
      simpa using this
    have at1 : atI (A.map eR) (k : Int) = some (.sl 0 (r.map .i)) := by
      simp only [atI, if_pos (Int.natCast_nonneg k)]
      show (A.map eR)[(k : Int).toNat]? = _
      rw [Int.toNat_natCast, List.getElem?_map, hat]; rfl
    have w1 : wr ((k : Int) + 1) = ((k + 1 : Nat) : Int) := by rw [wr_id (by omega) (by omega)]; omega
    have w2 : wr (m - acc.length) = m - acc.length := wr_id (by omega) (by omega)
    have W := c_impl_isWithin (r.length : Int) 1 (m - acc.length)
    rw [w_impl_GroupsOk_0]
    by_cases hr : 1 ≤ (r.length : Int) ∧ (r.length : Int) ≤ m - acc.length
    · rw [decide_eq_true hr] at W
      have ih := l_impl_GroupsOk hm A hb L (k + 1) (acc ++ r) (by simp; omega) (by omega) hd2
      have e : gAl m acc.length (r :: L) = gAl m (acc ++ r).length L := by simp only [gAl]; rw [decide_eq_true hr]; simp
      rw [e, List.flatten_cons, ← List.append_assoc, ← ih]
      have c1 : acc.length + r.length ≤ bound := by unfold bound; omega
      unfold stGk
      simp [F_impl_GroupsOk_L0, hlt, at1, w1, w2, W, c1, -Int.natCast_add]
    · rw [decide_eq_false hr] at W
      have e : gAl m acc.length (r :: L) = false := by simp only [gAl]; rw [decide_eq_false hr]; rfl
      rw [e]
      unfold stGk
      simp [F_impl_GroupsOk_L0, hlt, at1, w1, w2, W, -Int.natCast_add]
theorem c_impl_GroupsOk (m : Int) (L : List (List Int)) (hb : (L.length : Int) < 1099511627776) : call lf n_impl_GroupsOk [.i m, .sl 0 (L.map eR)] = some (.b (gokB m L), []) := by
  rw [call_k lf n_impl_GroupsOk _ (F := F_impl_GroupsOk) rfl rfl]
  cases h1 : nOk m with
  | false =>
    have e : gokB m L = false := by unfold gokB orOk; simp [h1]
    simp [F_impl_GroupsOk, c_impl_manyOk, h1, e]
  | true =>
    have hm := nOk_iff.1 h1
    rw [gokB_al hm]
    have I := l_impl_GroupsOk hm L hb L 0 [] (by simp; omega) (by simp) rfl
    unfold stGk at I
    simp only [List.length_nil, List.map_nil, Int.natCast_zero, List.nil_append] at I
    cases h2 : gAl m 0 L with
    | false =>
      rw [h2] at I
      simp at I
      simp [F_impl_GroupsOk, c_impl_manyOk, h1, I]
    | true =>
      rw [h2, if_pos rfl] at I
      have l5 := ((gAl_iff (n := 0) (by omega)).1 h2).2
      have C := c_impl_OrderOk m L.flatten (by omega)
      generalize L.flatten = M at *
      have tk : List.take M.length (M.map DV.i) = M.map .i := List.take_of_length_le (by simp)
      simp [F_impl_GroupsOk, c_impl_manyOk, h1, I, C, tk]
end
section
attribute [-simp] DV.cells
attribute [local simp] sliceD cells_st cells_sl cells_i cells_y cells_b cells_s cells_w
attribute [local simp] lend_eR al_eR
theorem at_eR {A : List (List Int)} {k : Nat} {r : List Int} (h : A[k]? = some r) : atI (A.map eR) (k : Int) = some (.sl 0 (r.map .i)) := by
  simp only [atI, if_pos (Int.natCast_nonneg k)]
  show (A.map eR)[(k : Int).toNat]? = _
  rw [Int.toNat_natCast, List.getElem?_map, h]; rfl
theorem atI_int {r : List Int} {j : Nat} {a : Int} (h : r[j]? = some a) : atI (r.map DV.i) (j : Int) = some (.i a) := by
  simp only [atI, if_pos (Int.natCast_nonneg j)]
  show (r.map DV.i)[(j : Int).toNat]? = _
  rw [Int.toNat_natCast, List.getElem?_map, h]; rfl
theorem drop_cons {α : Type} {A : List α} {k : Nat} {r : α} {L : List α} (h : A.drop k = r :: L) : k < A.length ∧ A[k]? = some r ∧ A.drop (k + 1) = L := by
  have hk : k < A.length := by
    rcases Nat.lt_or_ge k A.length with h1 | h1
    · exact h1
    · rw [List.drop_eq_nil_of_le h1] at h; cases h
  refine ⟨hk, ?_, by rw [← List.drop_drop, h]; rfl⟩
  have := congrArg (fun l => l[0]?) h
  simpa using this
theorem wr_succ {k : Nat} (h : (k : Int) < 1099511627776) : wr ((k : Int) + 1) = ((k + 1 : Nat) : Int) := by rw [wr_id (by omega) (by omega)]; omega
def stGi (m : Int) (A : List (List Int)) (so n k j : Nat) : LS := ⟨[(0, .i m), (1, .sl 0 (A.map eR)), (5, .i so), (6, .i n), (7, .i k), (8, .i j)], []⟩
theorem gs_inner (m : Int) (A : List (List Int)) {k : Nat} {R : List Int} (hk : A[k]? = some R) (hkl : (k : Int) < A.length) : ∀ (r : List Int) (j so n : Nat), so < 32 → ((n + r.length : Nat) : Int) < 1099511627776 → (R.length : Int) < 1099511627776 → R.drop j = r → j + r.length = R.length →
    ex lf F_spec_GroupsOk_W1 (stGi m A so n k j) = if orS (min m 5) so r = true then some (.exit 2, stGi m A (setO so r) (n + r.length) k R.length) else some (.ret, ⟨[(4, .b false)], []⟩) := by
  intro r
  induction r with
  | nil =>
    intro j so n hs hn hR hd hj
    have at1 := at_eR hk
    have e : j = R.length := by simpa using hj
    subst e
    rw [w_spec_GroupsOk_1]
    simp [stGi, F_spec_GroupsOk_L1, orS, setO, at1, hkl]
  | cons a r ih0 =>
    intro j so n hs hn hR hd hj
    have at1 := at_eR hk
    obtain ⟨j1, j2, j3⟩ := drop_cons hd
    have j1' : (j : Int) < R.length := by omega
    have at2 := atI_int j2
    simp only [List.length_cons] at hn hj
    have w1 := wr_succ (k := j) (by omega)
    have w2 := wr_succ (k := n) (by omega)
    rw [w_spec_GroupsOk_1]
    by_cases a0 : a < 0
    · have e2 : decide (0 ≤ a ∧ a < min m 5) = false := decide_eq_false (by omega)
      simp only [orS, e2, Bool.false_and]
      simp [stGi, F_spec_GroupsOk_L1, at1, at2, hkl, j1, j1', a0]
    · by_cases a1 : m ≤ a
      · have e2 : decide (0 ≤ a ∧ a < min m 5) = false := decide_eq_false (by omega)
        simp only [orS, e2, Bool.false_and]
        simp [stGi, F_spec_GroupsOk_L1, at1, at2, hkl, j1, j1', a0, a1]
      · by_cases a5 : 5 ≤ a
        · have e2 : decide (0 ≤ a ∧ a < min m 5) = false := decide_eq_false (by omega)
          simp only [orS, e2, Bool.false_and]
          simp [stGi, F_spec_GroupsOk_L1, at1, at2, hkl, j1, j1', a0, a1, a5]
        · have e2 : decide (0 ≤ a ∧ a < min m 5) = true := decide_eq_true (by omega)
          have o := or_i (so := so) (by omega) (by omega : 0 ≤ a) (by omega : a < 5)
          have bb := bit_bI (a := so) (s := a.toNat) (by omega)
          rw [Int.toNat_of_nonneg (by omega)] at bb
          have ih := ih0 (j + 1) (so ||| 2 ^ a.toNat) (n + 1) (or_lt2 (m := 5) hs (by omega)) (by omega) hR j3 (by omega)
          rw [show n + 1 + r.length = n + (r.length + 1) by omega] at ih
          simp only [orS, e2, Bool.true_and, setO, List.length_cons]
          unfold stGi at *
          cases hb : so.testBit a.toNat with
          | true =>
            rw [hb] at bb
            have q : (bI true == 1) = true := rfl
            simp [F_spec_GroupsOk_L1, at1, at2, hkl, j1, j1', a0, a1, a5, bb, q]
          | false =>
            rw [hb] at bb
            have q : (bI false == 1) = false := rfl
            simp [F_spec_GroupsOk_L1, at1, at2, hkl, j1, j1', a0, a1, a5, bb, q, o, w1, w2, ih, -Int.natCast_add]
def gSp (m : Int) : Nat → List (List Int) → Bool
  | _, [] => true
  | so, r :: L => !r.isEmpty && (orS m so r && gSp m (setO so r) L)
theorem gSp_eq (m : Int) : ∀ (L : List (List Int)) (so : Nat), gSp m so L = (L.all (fun r => !r.isEmpty) && orS m so L.flatten)
  | [], so => by simp [gSp, orS]
  | r :: L, so => by
    simp only [gSp, List.all_cons, List.flatten_cons, orS_app, gSp_eq m L]
    cases r.isEmpty <;> cases orS m so r <;> simp
theorem setO32 {m : Int} : ∀ {os : List Int} {so : Nat}, so < 32 → orS (min m 5) so os = true → setO so os < 32
  | [], _, h, _ => h
  | a :: r, so, h, ho => by
    obtain ⟨h1, h2, h3⟩ := orS_cons.1 ho
    exact setO32 (os := r) (or_lt2 (m := 5) h (by omega)) h3
def stGo (m : Int) (A : List (List Int)) (so n k : Nat) : LS := ⟨[(0, .i m), (1, .sl 0 (A.map eR)), (5, .i so), (6, .i n), (7, .i k)], []⟩
theorem gs_outer (m : Int) (A : List (List Int)) (hb : (A.length : Int) < 1099511627776) : ∀ (L : List (List Int)) (k so n : Nat), so < 32 → ((n + L.flatten.length : Nat) : Int) < 1099511627776 → A.drop k = L → k + L.length = A.length →
    ex lf F_spec_GroupsOk_W0 (stGo m A so n k) = if gSp (min m 5) so L = true then some (.exit 0, stGo m A (setO so L.flatten) (n + L.flatten.length) A.length) else some (.ret, ⟨[(4, .b false)], []⟩) := by
  intro L
  induction L with
  | nil =>
    intro k so n hs hn hd hk
    have e : k = A.length := by simpa using hk
    subst e
    rw [w_spec_GroupsOk_0]
    simp [stGo, F_spec_GroupsOk_L0, gSp, setO]
  | cons R L ih0 =>
    intro k so n hs hn hd hk
    obtain ⟨k1, k2, k3⟩ := drop_cons hd
    have k1' : (k : Int) < A.length := by omega
    have at1 := at_eR k2
    simp only [List.flatten_cons, List.length_append] at hn
    simp only [List.length_cons] at hk
    have w1 := wr_succ (k := k) (by omega)
    rw [w_spec_GroupsOk_0]
    by_cases h0 : R = []
    · subst h0
      simp only [gSp]
      simp [stGo, F_spec_GroupsOk_L0, k1, k1', at1]
    · have I := gs_inner m A k2 k1' R 0 so n hs (by omega) (by omega) rfl (by simp)
      have e0 : R.isEmpty = false := by simpa using h0
      have r0 : ((R.length : Int) == 0) = false := by have := List.length_pos_iff.2 h0; exact beq_false_of_ne (by omega)
      simp only [gSp, e0, Bool.not_false, Bool.true_and]
      unfold stGi at I
      unfold stGo at *
      simp only [Int.natCast_zero] at I
      cases h1 : orS (min m 5) so R with
      | false =>
        rw [h1] at I
        simp at I
        simp [F_spec_GroupsOk_L0, k1, k1', at1, r0, I]
      | true =>
        rw [h1, if_pos rfl] at I
        have ih := ih0 (k + 1) (setO so R) (n + R.length) (setO32 hs h1) (by omega) k3 (by omega)
        rw [← Nat.add_assoc, List.flatten_cons, setO_app, List.length_append, ← Nat.add_assoc] at *
        simp only [Bool.true_and]
        simp [F_spec_GroupsOk_L0, k1, k1', at1, r0, I, w1, ih, -Int.natCast_add, -List.length_flatten]
theorem c_spec_GroupsOk (m : Int) (L : List (List Int)) (hb : (L.length : Int) < 1099511627776) (hf : (L.flatten.length : Int) < 1099511627776) : call lf n_spec_GroupsOk [.i m, .sl 0 (L.map eR)] = some (.b (gokB m L), []) := by
  rw [call_k lf n_spec_GroupsOk _ (F := F_spec_GroupsOk) rfl rfl]
  have I := gs_outer m L hb L 0 0 0 (by omega) (by omega) rfl (by simp)
  unfold stGo at I
  simp only [Int.natCast_zero, Nat.zero_add] at I
  have e1 : nOk m = decide (1 ≤ m ∧ m ≤ 5) := rfl
  rw [gSp_eq] at I
  unfold gokB orOk
  rw [e1]
  by_cases hm : 1 ≤ m ∧ m ≤ 5
  · have h1 : decide (1 ≤ m ∧ m ≤ 5) = true := decide_eq_true hm
    have e5 : min m 5 = m := by omega
    rw [e5] at I
    rw [h1]
    cases h3 : (L.all (fun r => !r.isEmpty) && orS m 0 L.flatten) with
    | false =>
      rw [h3] at I
      simp at I
      have e : (L.all (fun r => !r.isEmpty) && (true && decide ((L.flatten.length : Int) = m) && orS m 0 L.flatten)) = false := by
        rw [Bool.true_and, ← Bool.and_assoc, Bool.and_right_comm, h3]; rfl
      rw [e]
      simp [F_spec_GroupsOk, I]
    | true =>
      rw [h3, if_pos rfl] at I
      rw [Bool.and_eq_true] at h3
      rw [h3.1, h3.2]
      generalize L.flatten.length = z at *
      simp [F_spec_GroupsOk, I, c_spec_l1In, h1, Bool.beq_eq_decide_eq]
  · have h1 : decide (1 ≤ m ∧ m ≤ 5) = false := decide_eq_false hm
    rw [h1]
    cases h3 : (L.all (fun r => !r.isEmpty) && orS (min m 5) 0 L.flatten) with
    | false =>
      rw [h3] at I
      simp at I
      simp [F_spec_GroupsOk, I]
    | true =>
      rw [h3, if_pos rfl] at I
      generalize L.flatten.length = z at *
      simp [F_spec_GroupsOk, I, c_spec_l1In, h1]
end
section
attribute [-simp] DV.cells
attribute [local simp] sliceD cells_st cells_sl cells_i cells_y cells_b cells_s cells_w
attribute [local simp] lend_eR al_eR
def ni (l : List Nat) : List Int := l.map fun k : Nat => (k : Int)
theorem ni_len (l : List Nat) : (ni l).length = l.length := by simp [ni]
theorem ni_toNat (l : List Nat) : (ni l).map Int.toNat = l := by
  unfold ni
  rw [List.map_map]
  conv => rhs; rw [← List.map_id l]
  apply List.map_congr_left
  intro k _
  simp
theorem at_ni {L : List Nat} {j k : Nat} (h : L[j]? = some k) : atI ((ni L).map DV.i) (j : Int) = some (.i k) ∧ atN ((ni L).map DV.i) j = some (.i k) := by
  have h' : (ni L)[j]? = some (k : Int) := by unfold ni; rw [List.getElem?_map, h]; rfl
  refine ⟨atI_int h', ?_⟩
  show ((ni L).map DV.i)[j]? = _
  rw [List.getElem?_map, h']; rfl
end
section
attribute [-simp] DV.cells
attribute [local simp] sliceD cells_st cells_sl cells_i cells_y cells_b cells_s cells_w
attribute [local simp] lend_eR al_eR
theorem gok_of {m : Nat} (hm : 1 ≤ m ∧ m ≤ 5) {L : List (List Int)} (h : gokB m L = true) : ∃ N : List (List Nat), L = N.map ni ∧ Gok m N := by
  unfold gokB at h
  rw [Bool.and_eq_true] at h
  obtain ⟨h1, h2⟩ := h
  obtain ⟨o1, o2, o3⟩ := orOk_iff.1 h2
  obtain ⟨o4, o5⟩ := orS_nodup.1 o3
  have e : L = (L.map (List.map Int.toNat)).map ni := by
    rw [List.map_map]
    conv => lhs; rw [← List.map_id L]
    apply List.map_congr_left
    intro r hr
    show r = ni (r.map Int.toNat)
    unfold ni
    rw [List.map_map]
    conv => lhs; rw [← List.map_id r]
    apply List.map_congr_left
    intro a ha
    have := (o4 a (List.mem_flatten.2 ⟨r, hr, ha⟩)).1
    show a = ((a.toNat : Nat) : Int)
    omega
  have ef : (L.map (List.map Int.toNat)).flatten = L.flatten.map Int.toNat := by rw [List.map_flatten]
  have lt : ∀ g ∈ L.map (List.map Int.toNat), ∀ k ∈ g, k < m := by
    intro g hg k hk
    obtain ⟨r, hr, rfl⟩ := List.mem_map.1 hg
    obtain ⟨a, ha, rfl⟩ := List.mem_map.1 hk
    have := (o4 a (List.mem_flatten.2 ⟨r, hr, ha⟩)).1
    omega
  have nd : (L.map (List.map Int.toNat)).flatten.Nodup := by
    rw [ef, List.nodup_iff_pairwise_ne, List.pairwise_map]
    refine List.Pairwise.imp_of_mem (fun {a b} ha hb hab h => hab ?_) (List.nodup_iff_pairwise_ne.1 o5)
    have := (o4 a ha).1
    have := (o4 b hb).1
    omega
  refine ⟨_, e, lt, nd, fun k hk => ?_, ?_⟩
  · rw [ef, List.mem_map]
    have p := (or_perm h2).mem_iff.2 (mem_rng.2 (show 0 ≤ (k : Int) ∧ (k : Int) < ((m : Int).toNat : Nat) by omega))
    exact ⟨(k : Int), p, by simp⟩
  · intro g hg
    obtain ⟨r, hr, rfl⟩ := List.mem_map.1 hg
    have := List.all_eq_true.1 h1 r hr
    simpa using this
end
section
def ci (ts : List Int) (i : Nat) : List DV := (ts.take i).map .i ++ List.replicate (ts.length - i) (.i 0)
end
section
attribute [-simp] DV.cells
attribute [local simp] sliceD cells_st cells_sl cells_i cells_y cells_b cells_s cells_w
attribute [local simp] lend_eR al_eR
def eN (r : List Int) : DV := .sl 1 (r.map .i)
theorem lend_eN (L : List (List Int)) : lendL (L.map eN) = L.map eR := by
  rw [lendL_map, List.map_map]
  apply List.map_congr_left
  intro r _
  simp [eN, eR, DV.lend]
theorem adopt_eN (o : Bool) (L : List (List Int)) : adoptL o (L.map eN) = L.map eN := by
  rw [adoptL_map, List.map_map]
  apply List.map_congr_left
  intro r _
  simp [eN, DV.adopt, adoptP]
theorem new_eN (L : List (List Int)) : allNewL (L.map eN) = true := by
  rw [allNewL_all, List.all_map, List.all_eq_true]
  intro r _
  simp [eN, DV.allNew, newP]
attribute [local simp] lend_eN adopt_eN new_eN
end
section
attribute [-simp] DV.cells
attribute [local simp] sliceD cells_st cells_sl cells_i cells_y cells_b cells_s cells_w
attribute [local simp] lend_eR al_eR lend_eN adopt_eN new_eN
theorem cells_cel (k n : Nat) : (DV.cel k n).cells = [.cel k n] := rfl
theorem noc_i (xs : List Int) : noCelL (xs.map DV.i) = true := by rw [noCelL_all, List.all_map, List.all_eq_true]; intro x _; rfl
theorem noc_y (xs : List Nat) : noCelL (xs.map DV.y) = true := by rw [noCelL_all, List.all_map, List.all_eq_true]; intro x _; rfl
theorem noc_eN (L : List (List Int)) : noCelL (L.map eN) = true := by
  rw [noCelL_all, List.all_map, List.all_eq_true]
  intro x _
  show noCelL (x.map DV.i) = true
  exact noc_i x
theorem c_odd0 (bs : List Nat) (p : Int) : call lf n_spec_l20Rd_odd [.ref (.st [.sl 0 (bs.map .y), .i p]), .i 0] = some (.b false, [.st [.sl 0 (bs.map .y), .i p]]) := by
  rw [call_k lf n_spec_l20Rd_odd _ (F := F_spec_l20Rd_odd) rfl rfl]
  simp [F_spec_l20Rd_odd]
theorem c_l20OrderG {bs : List Nat} (hb : ∀ y ∈ bs, y < 256) (hl : bs.length ≤ 2000) {p : Int} {m : Nat} (h0 : 0 ≤ p) (h1 : p < 700000) (hm : m ≤ 5) :
    ∃ us : List Int, us.length = m ∧ call lf n_spec_l20Order [.ref (.st [.sl 0 (bs.map .y), .i p]), .i m, .i 0] = some (.fr 1 (us.map .i), [.st [.sl 0 (bs.map .y), .i (p + m)]]) := by
  obtain ⟨us, u1, L⟩ := l_l20Order hb hl m hm 0 m 0 p 5640 [] (.inl rfl) h0 (by omega) (by omega) (by rfl)
  have lu := perm_len u1
  simp only [Int.natCast_zero, List.map_nil] at L
  have k2 := c_odd0 bs (p + m)
  refine ⟨us, lu, ?_⟩
  rw [call_k lf n_spec_l20Order _ (F := F_spec_l20Order) rfl rfl]
  generalize hq : p + (m : Int) = q at *
  simp [F_spec_l20Order, L, k2, lu]
attribute [local simp] cells_cel noc_i noc_y noc_eN noCelE noCelO noCelL DV.noCel
/-- the rows that are done, the row that grows -/
def stG2 (bs : List Nat) (n : Int) (os : List Int) (init : List (List Int)) (last : List Int) (i : Nat) (p : Int) : LS :=
  ⟨[(0, .oad 23 1 0 0), (2, .i n), (7, .own 6664 os.length 0 os.length), (8, .own 7176 (init.length + 1) 0 (init.length + 1)), (9, .i i)],
    [(23, [.st [.sl 0 (bs.map .y), .i p]]), (6664, os.map .i), (7176, init.map eN ++ [.cel 15373 last.length]), (15373, last.map .i)]⟩
set_option maxHeartbeats 8000000 in
theorem g2_step {bs : List Nat} (n : Int) (os : List Int) (hos : os.length ≤ 5) (init : List (List Int)) (last : List Int) {i : Nat} {a : Int} (hi : os[i]? = some a) (hil : init.length ≤ 5) (hl : last.length ≤ 5) {p : Int} {b : Bool}
    (k : call lf n_spec_l20Rd_pick [.ref (.st [.sl 0 (bs.map .y), .i p]), .i 2] = some (.i (if b then 0 else 1), [.st [.sl 0 (bs.map .y), .i (p + 1)]])) :
    ex lf F_spec_l20Groups_L0 (stG2 bs n os init last i p) = some (.normal, if b then stG2 bs n os (init ++ [last]) [a] (i + 1) (p + 1) else stG2 bs n os init (last ++ [a]) (i + 1) (p + 1)) := by
  have hlt : i < os.length := (List.getElem?_eq_some_iff.1 hi).1
  have hlt' : (i : Int) < os.length := by omega
  have w1 := wr_succ (k := i) (by omega)
  have a1 := atI_int hi
  have a2 : atN (os.map DV.i) i = some (.i a) := by
    show (os.map DV.i)[i]? = _
    rw [List.getElem?_map, hi]; rfl
  have tk : List.take os.length (os.map DV.i) = os.map .i := List.take_of_length_le (by simp)
  have r3 : ∀ (I : List (List Int)) (x : DV), atN (I.map eN ++ [x]) I.length = some x := fun I x => by
    show (I.map eN ++ [x])[I.length]? = _
    rw [List.getElem?_append_right (by simp)]
    simp
  have s3 : ∀ (I : List (List Int)) (x y : DV), (I.map eN ++ [x]).set I.length y = I.map eN ++ [y] := fun I x y => by
    rw [List.set_append_right _ _ (by simp)]
    simp
  cases b with
  | true =>
    have c1 : init.length + 1 + 1 ≤ bound := by unfold bound; omega
    have w2 : wr (((init.length + 1 + 1 : Nat) : Int) - 1) = ((init.length + 1 : Nat) : Int) := by rw [wr_id (by omega) (by omega)]; omega
    have e0 : (((init.length + 1 : Nat) : Int) == 0) = false := beq_false_of_ne (by omega)
    have r4 := r3 (init ++ [last]) (.cel 15373 0)
    have s4 := s3 (init ++ [last]) (.cel 15373 0) (.cel 15373 1)
    have sh : init.map eN ++ [DV.sl 1 (last.map .i)] = (init ++ [last]).map eN := by rw [List.map_append]; rfl
    have ln : (init ++ [last]).length = init.length + 1 := by simp
    have lM : ((init ++ [last]).map eN).length = init.length + 1 := by simp
    rw [ln] at r4 s4
    have cb : 1 ≤ bound := by unfold bound; omega
    have nM := noc_eN (init ++ [last])
    rw [if_pos rfl] at k
    simp only [if_true]
    unfold stG2
    rw [ln]
    generalize hM : (init ++ [last]).map eN = M at *
    have tkM : List.take (init.length + 1) M = M := List.take_of_length_le (by omega)
    simp [F_spec_l20Groups_L0, hlt, hlt', w1, w2, e0, k, a1, a2, tk, sh, lM, c1, r4, s4, cb, tkM, nM, -Int.natCast_add]
  | false =>
    have w2 : wr (((init.length + 1 : Nat) : Int) - 1) = (init.length : Nat) := by rw [wr_id (by omega) (by omega)]; omega
    have e0 : (((init.length + 1 : Nat) : Int) == 0) = false := beq_false_of_ne (by omega)
    have cb : last.length + 1 ≤ bound := by unfold bound; omega
    unfold stG2
    simp at k
    simp [F_spec_l20Groups_L0, hlt, hlt', w1, w2, e0, k, a1, a2, tk, r3, s3, cb, -Int.natCast_add]
set_option maxHeartbeats 8000000 in
theorem g2_first {bs : List Nat} (n : Int) {os : List Int} (hos : os.length ≤ 5) {a : Int} (hi : os[0]? = some a) (p : Int) :
    ex lf F_spec_l20Groups_L0 ⟨[(0, .oad 23 1 0 0), (2, .i n), (7, .own 6664 os.length 0 os.length), (8, .own 7176 0 0 0), (9, .i 0)], [(23, [.st [.sl 0 (bs.map .y), .i p]]), (6664, os.map .i), (7176, [])]⟩ = some (.normal, stG2 bs n os [] [a] 1 p) := by
  have hlt : 0 < os.length := (List.getElem?_eq_some_iff.1 hi).1
  have a1 := atI_int hi
  simp only [Int.natCast_zero] at a1
  have a2 : atN (os.map DV.i) 0 = some (.i a) := by
    show (os.map DV.i)[0]? = _
    rw [List.getElem?_map, hi]; rfl
  have tk : List.take os.length (os.map DV.i) = os.map .i := List.take_of_length_le (by simp)
  have cb : 1 ≤ bound := by unfold bound; omega
  have w1 : wr (1 : Int) = 1 := wr_id (by omega) (by omega)
  have w0 : wr (0 : Int) = 0 := wr_id (by omega) (by omega)
  unfold stG2
  simp [F_spec_l20Groups_L0, hlt, a1, a2, tk, cb, w0, w1]
theorem g2_loop {bs : List Nat} (hb : ∀ y ∈ bs, y < 256) (hl : bs.length ≤ 2000) (n : Int) (os : List Int) (hos : os.length ≤ 5) : ∀ (d i : Nat) (init : List (List Int)) (last : List Int) (p : Int), i + d = os.length → 1 ≤ i → init.length + 1 ≤ i → init.flatten.length + last.length = i → 0 ≤ p → p + d < 900000 →
    ∃ (init' : List (List Int)) (last' : List Int) (p' : Int), p ≤ p' ∧ p' ≤ p + d ∧ init'.length + 1 ≤ os.length ∧ init'.flatten.length + last'.length = os.length ∧
      ex lf F_spec_l20Groups_W0 (stG2 bs n os init last i p) = some (.exit 0, stG2 bs n os init' last' os.length p') := by
  intro d
  induction d with
  | zero =>
    intro i init last p hi h1 h2 h3 h4 h5
    have e : i = os.length := by omega
    subst e
    refine ⟨init, last, p, by omega, by omega, h2, h3, ?_⟩
    rw [w_spec_l20Groups_0]
    simp [stG2, F_spec_l20Groups_L0]
  | succ d ih =>
    intro i init last p hi h1 h2 h3 h4 h5
    have hk : os[i]? = some os[i] := List.getElem?_eq_getElem (by omega)
    have k := c_pick hb hl (p := p) (n := 2) h4 (by omega) (by omega)
    have bd := pk_bound hb (p := p) (n := 2) h4 (by omega) (by omega)
    by_cases z : pk bs p 2 = 0
    · rw [z] at k
      have S := g2_step n os hos init last hk (by omega) (by omega) (b := true) (p := p) (by simpa using k)
      obtain ⟨i', l', p', q1, q2, q3, q4, q5⟩ := ih (i + 1) (init ++ [last]) [os[i]] (p + 1) (by omega) (by omega) (by simp; omega) (by simp only [List.flatten_append, List.length_append, List.flatten_cons, List.flatten_nil, List.length_nil, List.length_singleton]; omega) (by omega) (by omega)
      refine ⟨i', l', p', by omega, by omega, q3, q4, ?_⟩
      rw [w_spec_l20Groups_0, S]
      simpa using q5
    · have z1 : pk bs p 2 = 1 := by omega
      rw [z1] at k
      have S := g2_step n os hos init last hk (by omega) (by omega) (b := false) (p := p) (by simpa using k)
      obtain ⟨i', l', p', q1, q2, q3, q4, q5⟩ := ih (i + 1) init (last ++ [os[i]]) (p + 1) (by omega) (by omega) (by omega) (by simp only [List.length_append, List.length_singleton]; omega) (by omega) (by omega)
      refine ⟨i', l', p', by omega, by omega, q3, q4, ?_⟩
      rw [w_spec_l20Groups_0, S]
      simpa using q5
set_option maxHeartbeats 8000000 in
theorem c_l20Groups {bs : List Nat} (hb : ∀ y ∈ bs, y < 256) (hl : bs.length ≤ 2000) {p n : Int} {m : Nat} (h0 : 0 ≤ p) (h1 : p < 600000) (hm : m ≤ 5) (hn : 1 ≤ n) (hn2 : n ≤ 1000000) :
    ∃ (R : List (List Int)) (p' : Int), R.length ≤ 6 ∧ R.flatten.length ≤ 6 ∧ p ≤ p' ∧ p' ≤ p + 30 ∧ call lf n_spec_l20Groups [.ref (.st [.sl 0 (bs.map .y), .i p]), .i m, .i n] = some (.fr 1 (R.map eN), [.st [.sl 0 (bs.map .y), .i p']]) := by
  obtain ⟨os, lo, CO⟩ := c_l20OrderG hb hl (p := p) (m := m) h0 (by omega) hm
  obtain ⟨Q, q, S1, b1, b2, b3, b4, W, H⟩ : ∃ (Q : List (List Int)) (q : Int) (S1 : LS), Q.length ≤ 5 ∧ Q.flatten.length ≤ 5 ∧ p ≤ q ∧ q ≤ p + 15 ∧
      ex lf F_spec_l20Groups_W0 ⟨[(0, .oad 23 1 0 0), (2, .i n), (7, .own 6664 os.length 0 os.length), (8, .own 7176 0 0 0), (9, .i 0)], [(23, [.st [.sl 0 (bs.map .y), .i (p + m)]]), (6664, os.map .i), (7176, [])]⟩ = some (.exit 0, S1) ∧
      ∀ X : LC, ex lf (.ghost (.shut 8) X) S1 = ex lf X ⟨[(0, .oad 23 1 0 0), (2, .i n), (7, .own 6664 os.length 0 os.length), (8, .own 7176 Q.length 0 Q.length), (9, .i os.length)], [(23, [.st [.sl 0 (bs.map .y), .i q]]), (6664, os.map .i), (7176, Q.map eN)]⟩ := by
    cases os with
    | nil =>
      refine ⟨[], p + m, ⟨[(0, .oad 23 1 0 0), (2, .i n), (7, .own 6664 0 0 0), (8, .own 7176 0 0 0), (9, .i 0)], [(23, [.st [.sl 0 (bs.map .y), .i (p + m)]]), (6664, []), (7176, [])]⟩, by simp, by simp, by omega, by omega, ?_, fun X => ?_⟩
      · rw [w_spec_l20Groups_0]
        simp [F_spec_l20Groups_L0]
      · simp
    | cons a os =>
      have S := g2_first (bs := bs) n (os := a :: os) (by omega) (a := a) rfl (p + m)
      have lo' : os.length + 1 = m := by simpa using lo
      obtain ⟨I, l, q, q1, q2, q3, q4, q5⟩ := g2_loop hb hl n (a :: os) (by omega) os.length 1 [] [a] (p + m) (by simp; omega) (by omega) (by simp) (by simp) (by omega) (by omega)
      refine ⟨I ++ [l], q, stG2 bs n (a :: os) I l (a :: os).length q, by simp only [List.length_append, List.length_singleton]; omega, by simp only [List.flatten_append, List.length_append, List.flatten_cons, List.flatten_nil, List.length_nil]; omega, by omega, by simp only [List.length_cons] at lo; omega, ?_, fun X => ?_⟩
      · rw [w_spec_l20Groups_0, S]
        exact q5
      · have sh : I.map eN ++ [DV.sl 1 (l.map .i)] = (I ++ [l]).map eN := by rw [List.map_append]; rfl
        have ln : (I ++ [l]).length = I.length + 1 := by simp
        unfold stG2
        rw [ln]
        generalize (I ++ [l]).map eN = M at *
        simp [sh]
  have k2 := c_odd hb hl (p := q) (n := n) (by omega) (by omega) hn hn2
  have tk : List.take Q.length (Q.map eN) = Q.map eN := List.take_of_length_le (by simp)
  have cb : Q.length + 1 ≤ bound := by unfold bound; omega
  cases ho : (pk bs q n == n - 1) with
  | false =>
    rw [ho] at k2
    refine ⟨Q, q + 1, by omega, by omega, by omega, by omega, ?_⟩
    rw [call_k lf n_spec_l20Groups _ (F := F_spec_l20Groups) rfl rfl]
    generalize hpm : p + (m : Int) = pm at *
    simp [F_spec_l20Groups, CO, W, H, k2, tk, -ks_shut]
  | true =>
    rw [ho] at k2
    have k3 := c_pick hb hl (p := q + 1) (n := 2) (by omega) (by omega) (by omega)
    have a3 := pk_bound hb (p := q + 1) (n := 2) (by omega) (by omega) (by omega)
    by_cases z : pk bs (q + 1) 2 = 0
    · rw [z] at k3
      refine ⟨Q ++ [[]], q + 1 + 1, by simp; omega, by simp only [List.flatten_append, List.length_append, List.flatten_cons, List.flatten_nil, List.length_nil]; omega, by omega, by omega, ?_⟩
      rw [call_k lf n_spec_l20Groups _ (F := F_spec_l20Groups) rfl rfl]
      generalize hpm : p + (m : Int) = pm at *
      simp [F_spec_l20Groups, CO, W, H, k2, k3, tk, cb, -ks_shut, eN]
    · have z1 : pk bs (q + 1) 2 = 1 := by omega
      rw [z1] at k3
      refine ⟨Q ++ [[0]], q + 1 + 1, by simp; omega, by simp only [List.flatten_append, List.length_append, List.flatten_cons, List.flatten_nil, List.length_nil, List.length_singleton]; omega, by omega, by omega, ?_⟩
      rw [call_k lf n_spec_l20Groups _ (F := F_spec_l20Groups) rfl rfl]
      generalize hpm : p + (m : Int) = pm at *
      simp [F_spec_l20Groups, CO, W, H, k2, k3, tk, cb, -ks_shut, eN]
end
section
attribute [-simp] DV.cells
attribute [local simp] sliceD cells_st cells_sl cells_i cells_y cells_b cells_s cells_w
attribute [local simp] lend_eR al_eR lend_eN adopt_eN new_eN
theorem c_DrawGroupTerm {bs : List Nat} (hb : ∀ y ∈ bs, y < 256) (hl : bs.length ≤ 1048576) :
    ∃ (m : Nat) (R : List (List Int)), (1 ≤ m ∧ m ≤ 5) ∧ R.length ≤ 6 ∧ R.flatten.length ≤ 6 ∧ call lf n_spec_DrawGroupTerm [.sl 0 (bs.map .y)] = some (.tup [.i m, .fr 1 (R.map eN)], []) := by
  obtain ⟨c1, c2⟩ := take_b hb
  have o := c_open hl
  generalize bs.take 2000 = cs at *
  have a1 := pk_bound c1 (p := 0) (n := 5) (by omega) (by omega) (by omega)
  have k1 := c_pick c1 c2 (p := 0) (n := 5) (by omega) (by omega) (by omega)
  simp at k1
  have w1 : wr (1 + pk cs 0 5) = 1 + pk cs 0 5 := wr_id (by omega) (by omega)
  obtain ⟨m, hm⟩ : ∃ m : Nat, 1 + pk cs 0 5 = m := ⟨(1 + pk cs 0 5).toNat, by omega⟩
  rw [hm] at w1
  obtain ⟨R, p', q1, q2, q3, q4, G⟩ := c_l20Groups c1 c2 (p := 1) (n := 9) (m := m) (by omega) (by omega) (by omega) (by omega) (by omega)
  refine ⟨m, R, by omega, q1, q2, ?_⟩
  rw [call_k lf n_spec_DrawGroupTerm _ (F := F_spec_DrawGroupTerm) rfl rfl]
  have tk : List.take R.length (R.map eN) = R.map eN := List.take_of_length_le (by simp)
  simp [F_spec_DrawGroupTerm, o, k1, w1, hm, G, tk]
end
section
attribute [-simp] DV.cells
attribute [local simp] sliceD cells_st cells_sl cells_i cells_y cells_b cells_s cells_w
attribute [local simp] lend_eR al_eR
def tI : Nat → List Nat → List T
  | _, [] => []
  | i, k :: r => (0, (k : Int)) :: ((if i = 0 then [] else [(3, 0)]) ++ tI (i + 1) r)
def gJ : Nat → List (List Nat) → List T
  | _, [] => []
  | j, g :: R => tI 0 g ++ ((if j = 0 then [] else [(2, 0)]) ++ gJ (j + 1) R)
theorem tI_pos (i : Nat) : ∀ r : List Nat, tI (i + 1) r = r.flatMap fun k : Nat => [(0, (k : Int)), (3, 0)]
  | [] => rfl
  | k :: r => by simp [tI, tI_pos (i + 1) r]
theorem tI_orL : ∀ g : List Nat, tI 0 g = orL g
  | [] => rfl
  | k :: r => by simp [tI, orL, tI_pos]
theorem gJ_pos (j : Nat) : ∀ R : List (List Nat), gJ (j + 1) R = R.flatMap fun g => orL g ++ [(2, 0)]
  | [] => rfl
  | g :: R => by simp [gJ, gJ_pos (j + 1) R, tI_orL]
theorem gJ_grL : ∀ L : List (List Nat), gJ 0 L = grL L
  | [] => rfl
  | g :: R => by simp [gJ, grL, gJ_pos, tI_orL]
theorem tI_len : ∀ (r : List Nat) (i : Nat), (tI i r).length ≤ 2 * r.length
  | [], i => by simp [tI]
  | k :: r, i => by
    have := tI_len r (i + 1)
    simp only [tI, List.length_cons, List.length_append]
    split <;> simp <;> omega
def stT1 (A : List (List Int)) (g : List Nat) (acc : List T) (j i : Nat) : LS :=
  ⟨[(5, .own 2576 acc.length 0 acc.length), (6, .i j), (14, .sl 0 (A.map eR)), (15, .i A.length), (16, .i j), (21, .sl 0 ((ni g).map .i)), (22, .i g.length), (23, .i i)], [(2576, acc.map e2)]⟩
theorem t_inner (A : List (List Int)) (g : List Nat) (j : Nat) (h5 : g.length ≤ 5) : ∀ (r : List Nat) (i : Nat) (acc : List T), acc.length + 2 * r.length ≤ 1000 → g.drop i = r → i + r.length = g.length →
    ex lf F_impl_GroupTerm_W1 (stT1 A g acc j i) = some (.exit 2, stT1 A g (acc ++ tI i r) j g.length) := by
  intro r
  induction r with
  | nil =>
    intro i acc hl hd hi
    have e : i = g.length := by simpa using hi
    subst e
    rw [w_impl_GroupTerm_1]
    simp [stT1, F_impl_GroupTerm_L1, tI]
  | cons k r ih0 =>
    intro i acc hl hd hi
    obtain ⟨k1, k2, k3⟩ := drop_cons hd
    simp only [List.length_cons] at hl hi
    obtain ⟨a1, a2⟩ := at_ni k2
    have k1' : (i : Int) < g.length := by omega
    have ng := ni_len g
    have w1 := wr_succ (k := i) (by omega)
    have b1 : acc.length + 1 ≤ bound := by unfold bound; omega
    have b2 : acc.length + 1 + 1 ≤ bound := by unfold bound; omega
    rw [w_impl_GroupTerm_1]
    have w0 : wr (1 : Int) = 1 := wr_id (by omega) (by omega)
    cases i with
    | zero =>
      simp only [Int.natCast_zero] at a1
      have ih := ih0 1 (acc ++ [(0, (k : Int))]) (by simp; omega) k3 (by omega)
      have e : acc ++ tI 0 (k :: r) = (acc ++ [(0, (k : Int))]) ++ tI 1 r := by simp [tI]
      rw [e]
      unfold stT1 at *
      simp [F_impl_GroupTerm_L1, k1, ng, a1, a2, b1, e2, w0] at ih ⊢
      first | exact ih | simp [ih, -Int.natCast_add]
    | succ i =>
      have ih := ih0 (i + 1 + 1) (acc ++ [(0, (k : Int)), (3, 0)]) (by simp; omega) k3 (by omega)
      have e : acc ++ tI (i + 1) (k :: r) = (acc ++ [(0, (k : Int)), (3, 0)]) ++ tI (i + 1 + 1) r := by simp [tI]
      rw [e]
      have gq : 0 < i + 1 := by omega
      have tk : List.take (acc.length + 1) (acc.map e2 ++ [DV.st [.i 0, .i (k : Int)]]) = acc.map e2 ++ [DV.st [.i 0, .i (k : Int)]] := List.take_of_length_le (by simp)
      unfold stT1 at *
      generalize i + 1 = q at *
      simp [F_impl_GroupTerm_L1, k1, k1', ng, a1, a2, b1, b2, e2, gq, tk, w1, -Int.natCast_add] at ih ⊢
      first | exact ih | simp [ih, -Int.natCast_add]
def stT0 (A : List (List Int)) (acc : List T) (j : Nat) : LS :=
  ⟨[(5, .own 2576 acc.length 0 acc.length), (14, .sl 0 (A.map eR)), (15, .i A.length), (16, .i j)], [(2576, acc.map e2)]⟩
theorem t_outer (A : List (List Int)) (hA : A.length ≤ 1000) : ∀ (L : List (List Nat)) (j : Nat) (acc : List T), (∀ g ∈ L, g.length ≤ 5) → acc.length + (2 * L.flatten.length + L.length) ≤ 1000 → A.drop j = L.map ni → j + L.length = A.length →
    ex lf F_impl_GroupTerm_W0 (stT0 A acc j) = some (.exit 0, stT0 A (acc ++ gJ j L) A.length) := by
  intro L
  induction L with
  | nil =>
    intro j acc h5 hl hd hj
    have e : j = A.length := by simpa using hj
    subst e
    rw [w_impl_GroupTerm_0]
    simp [stT0, F_impl_GroupTerm_L0, gJ]
  | cons g L ih0 =>
    intro j acc h5 hl hd hj
    rw [List.map_cons] at hd
    obtain ⟨k1, k2, k3⟩ := drop_cons hd
    simp only [List.length_cons, List.flatten_cons, List.length_append] at hl hj
    have at1 := at_eR k2
    have k1' : (j : Int) < A.length := by omega
    have ng := ni_len g
    have w1 := wr_succ (k := j) (by omega)
    have g5 := h5 g (by simp)
    have I := t_inner A g j g5 g 0 acc (by omega) rfl (by omega)
    have tl := tI_len g 0
    have b1 : (acc ++ tI 0 g).length + 1 ≤ bound := by rw [List.length_append]; unfold bound; omega
    rw [w_impl_GroupTerm_0]
    unfold stT1 at I
    unfold stT0 at *
    simp only [Int.natCast_zero] at I
    have w0 : wr (1 : Int) = 1 := wr_id (by omega) (by omega)
    cases j with
    | zero =>
      try simp only [Int.natCast_zero] at at1
      have ih := ih0 1 (acc ++ tI 0 g) (fun x hx => h5 x (by simp [hx])) (by rw [List.length_append]; omega) k3 (by omega)
      have e : acc ++ gJ 0 (g :: L) = (acc ++ tI 0 g) ++ gJ 1 L := by simp [gJ]
      rw [e]
      generalize acc ++ tI 0 g = Q at *
      simp [F_impl_GroupTerm_L0, k1, at1, ng, w0, -Int.natCast_add] at ih I ⊢
      first | exact ih | simp [I, ih, w0, -Int.natCast_add]
    | succ j =>
      have ih := ih0 (j + 1 + 1) (acc ++ tI 0 g ++ [(2, 0)]) (fun x hx => h5 x (by simp [hx])) (by simp only [List.length_append, List.length_singleton]; omega) k3 (by omega)
      have e : acc ++ gJ (j + 1) (g :: L) = (acc ++ tI 0 g ++ [(2, 0)]) ++ gJ (j + 1 + 1) L := by simp [gJ]
      rw [e]
      have gq : 0 < j + 1 := by omega
      have e2' : ∀ Q : List T, (Q ++ [(2, 0)]).map e2 = Q.map e2 ++ [DV.st [.i 2, .i 0]] := fun Q => by rw [List.map_append]; rfl
      rw [e2'] at ih
      generalize acc ++ tI 0 g = Q at *
      generalize j + 1 = q at *
      have tk : List.take Q.length (Q.map e2) = Q.map e2 := List.take_of_length_le (by simp)
      simp [F_impl_GroupTerm_L0, k1, k1', at1, ng, b1, gq, w1, tk, -Int.natCast_add] at ih I ⊢
      simp [I, ih, gq, b1, w1, -Int.natCast_add]
def gtL (m : Int) (L : List (List Int)) : List T := if gokB m L = true then grL (L.map (List.map Int.toNat)) else []
theorem toNat_ni (N : List (List Nat)) : (N.map ni).map (List.map Int.toNat) = N := by
  rw [List.map_map]
  conv => rhs; rw [← List.map_id N]
  apply List.map_congr_left
  intro g _
  exact ni_toNat g
theorem row_le {m : Nat} {N : List (List Nat)} (G : Gok m N) {g : List Nat} (hg : g ∈ N) : g.length ≤ m := by
  have l := gok_len G
  obtain ⟨A, B, hAB⟩ := List.append_of_mem hg
  rw [hAB, List.flatten_append, List.flatten_cons, List.length_append, List.length_append] at l; omega
theorem rows_le {m : Nat} {N : List (List Nat)} (G : Gok m N) : N.length ≤ m := by
  have l := gok_len G
  have key : ∀ {N : List (List Nat)}, (∀ g ∈ N, g ≠ []) → N.length ≤ N.flatten.length := by
    intro N
    induction N with
    | nil => intro _; simp
    | cons g N ih =>
      intro h
      have := List.length_pos_iff.2 (h g (by simp))
      have := ih (fun x hx => h x (by simp [hx]))
      rw [List.flatten_cons, List.length_append, List.length_cons]; omega
  have := key G.ne
  omega
theorem grL_bd {m : Nat} (h1 : 1 ≤ m) {N : List (List Nat)} (G : Gok m N) : (grL N).length + 1 = 2 * m := by
  have := grL_len (gok_ne h1 G) G.ne
  rw [gok_len G] at this
  exact this
theorem gtL_le (m : Int) (L : List (List Int)) : (gtL m L).length ≤ 9 := by
  unfold gtL
  split
  · rename_i h
    have hh := h
    unfold gokB at hh
    rw [Bool.and_eq_true] at hh
    have hm := (orOk_iff.1 hh.2).1
    obtain ⟨n, rfl⟩ : ∃ n : Nat, m = n := ⟨m.toNat, by omega⟩
    obtain ⟨N, rfl, G⟩ := gok_of (by omega) h
    rw [toNat_ni]
    have := grL_bd (by omega) G
    omega
  · simp
theorem c_impl_GroupTerm (m : Int) (L : List (List Int)) (hb : (L.length : Int) < 1099511627776) : call lf n_impl_GroupTerm [.i m, .sl 0 (L.map eR)] = some (.fr 2 ((gtL m L).map e2), []) := by
  rw [call_k lf n_impl_GroupTerm _ (F := F_impl_GroupTerm) rfl rfl]
  have C := c_impl_GroupsOk m L hb
  cases h : gokB m L with
  | false =>
    rw [h] at C
    have e : gtL m L = [] := by unfold gtL; rw [h]; rfl
    rw [e]
    simp [F_impl_GroupTerm, C]
  | true =>
    rw [h] at C
    have hh := h
    unfold gokB at hh
    rw [Bool.and_eq_true] at hh
    have hm := (orOk_iff.1 hh.2).1
    obtain ⟨n, rfl⟩ : ∃ n : Nat, m = n := ⟨m.toNat, by omega⟩
    obtain ⟨N, rfl, G⟩ := gok_of (by omega) h
    have e : gtL n (N.map ni) = grL N := by unfold gtL; rw [h, toNat_ni]; rfl
    have lN := rows_le G
    have lf' := gok_len G
    have I := t_outer (N.map ni) (by simp; omega) N 0 [] (fun g hg => by have := row_le G hg; omega) (by simp only [List.length_nil]; omega) rfl (by simp)
    unfold stT0 at I
    rw [List.nil_append, gJ_grL] at I
    rw [e]
    generalize grL N = Q at *
    generalize N.map ni = L at *
    have tk : List.take Q.length (Q.map e2) = Q.map e2 := List.take_of_length_le (by simp)
    simp only [List.length_nil, List.map_nil, Int.natCast_zero] at I
    simp [F_impl_GroupTerm, C, I, tk]
def stU1 (m : Int) (A : List (List Int)) (acc : List T) (j i : Nat) : LS :=
  ⟨[(0, .i m), (1, .sl 0 (A.map eR)), (5, .own 4112 acc.length 0 acc.length), (6, .i j), (7, .i i)], [(4112, acc.map e2)]⟩
theorem u_inner (m : Int) (A : List (List Int)) {g : List Nat} {j : Nat} (hj : A[j]? = some (ni g)) (h5 : g.length ≤ 5) : ∀ (r : List Nat) (i : Nat) (acc : List T), acc.length + 2 * r.length ≤ 1000 → g.drop i = r → i + r.length = g.length →
    ex lf F_spec_GroupTerm_W1 (stU1 m A acc j i) = some (.exit 2, stU1 m A (acc ++ tI i r) j g.length) := by
  have at1 := at_eR hj
  have j1 : (j : Int) < A.length := by have := (List.getElem?_eq_some_iff.1 hj).1; omega
  have ng := ni_len g
  intro r
  induction r with
  | nil =>
    intro i acc hl hd hi
    have e : i = g.length := by simpa using hi
    subst e
    rw [w_spec_GroupTerm_1]
    simp [stU1, F_spec_GroupTerm_L1, tI, at1, j1, ng]
  | cons k r ih0 =>
    intro i acc hl hd hi
    obtain ⟨k1, k2, k3⟩ := drop_cons hd
    simp only [List.length_cons] at hl hi
    obtain ⟨a1, a2⟩ := at_ni k2
    have k1' : (i : Int) < g.length := by omega
    have w1 := wr_succ (k := i) (by omega)
    have b1 : acc.length + 1 ≤ bound := by unfold bound; omega
    have b2 : acc.length + 1 + 1 ≤ bound := by unfold bound; omega
    rw [w_spec_GroupTerm_1]
    have w0 : wr (1 : Int) = 1 := wr_id (by omega) (by omega)
    cases i with
    | zero =>
      simp only [Int.natCast_zero] at a1
      have ih := ih0 1 (acc ++ [(0, (k : Int))]) (by simp; omega) k3 (by omega)
      have e : acc ++ tI 0 (k :: r) = (acc ++ [(0, (k : Int))]) ++ tI 1 r := by simp [tI]
      rw [e]
      unfold stU1 at *
      simp [F_spec_GroupTerm_L1, k1, ng, at1, j1, a1, a2, b1, e2, w0] at ih ⊢
      first | exact ih | simp [ih, -Int.natCast_add]
    | succ i =>
      have ih := ih0 (i + 1 + 1) (acc ++ [(0, (k : Int)), (3, 0)]) (by simp; omega) k3 (by omega)
      have e : acc ++ tI (i + 1) (k :: r) = (acc ++ [(0, (k : Int)), (3, 0)]) ++ tI (i + 1 + 1) r := by simp [tI]
      rw [e]
      have gq : 0 < i + 1 := by omega
      have tk : List.take (acc.length + 1) (acc.map e2 ++ [DV.st [.i 0, .i (k : Int)]]) = acc.map e2 ++ [DV.st [.i 0, .i (k : Int)]] := List.take_of_length_le (by simp)
      unfold stU1 at *
      generalize i + 1 = q at *
      simp [F_spec_GroupTerm_L1, k1, k1', ng, at1, j1, a1, a2, b1, b2, e2, gq, tk, w1, -Int.natCast_add] at ih ⊢
      first | exact ih | simp [ih, -Int.natCast_add]
def stU0 (m : Int) (A : List (List Int)) (acc : List T) (j : Nat) : LS :=
  ⟨[(0, .i m), (1, .sl 0 (A.map eR)), (5, .own 4112 acc.length 0 acc.length), (6, .i j)], [(4112, acc.map e2)]⟩
theorem u_outer (m : Int) (A : List (List Int)) (hA : A.length ≤ 1000) (C : call lf n_spec_GroupsOk [.i m, .sl 0 (A.map eR)] = some (.b true, [])) : ∀ (L : List (List Nat)) (j : Nat) (acc : List T), (∀ g ∈ L, g.length ≤ 5) → acc.length + (2 * L.flatten.length + L.length) ≤ 1000 → A.drop j = L.map ni → j + L.length = A.length →
    ex lf F_spec_GroupTerm_W0 (stU0 m A acc j) = some (.exit 0, stU0 m A (acc ++ gJ j L) A.length) := by
  intro L
  induction L with
  | nil =>
    intro j acc h5 hl hd hj
    have e : j = A.length := by simpa using hj
    subst e
    rw [w_spec_GroupTerm_0]
    simp [stU0, F_spec_GroupTerm_L0, gJ]
  | cons g L ih0 =>
    intro j acc h5 hl hd hj
    rw [List.map_cons] at hd
    obtain ⟨k1, k2, k3⟩ := drop_cons hd
    simp only [List.length_cons, List.flatten_cons, List.length_append] at hl hj
    have k1' : (j : Int) < A.length := by omega
    have w1 := wr_succ (k := j) (by omega)
    have g5 := h5 g (by simp)
    have I := u_inner m A k2 g5 g 0 acc (by omega) rfl (by omega)
    have tl := tI_len g 0
    have b1 : (acc ++ tI 0 g).length + 1 ≤ bound := by rw [List.length_append]; unfold bound; omega
    rw [w_spec_GroupTerm_0]
    unfold stU1 at I
    unfold stU0 at *
    simp only [Int.natCast_zero] at I
    have w0 : wr (1 : Int) = 1 := wr_id (by omega) (by omega)
    cases j with
    | zero =>
      try simp only [Int.natCast_zero] at at1
      have ih := ih0 1 (acc ++ tI 0 g) (fun x hx => h5 x (by simp [hx])) (by rw [List.length_append]; omega) k3 (by omega)
      have e : acc ++ gJ 0 (g :: L) = (acc ++ tI 0 g) ++ gJ 1 L := by simp [gJ]
      rw [e]
      generalize acc ++ tI 0 g = Q at *
      simp [F_spec_GroupTerm_L0, k1, C, w0, -Int.natCast_add] at ih I ⊢
      first | exact ih | simp [I, ih, w0, -Int.natCast_add]
    | succ j =>
      have ih := ih0 (j + 1 + 1) (acc ++ tI 0 g ++ [(2, 0)]) (fun x hx => h5 x (by simp [hx])) (by simp only [List.length_append, List.length_singleton]; omega) k3 (by omega)
      have e : acc ++ gJ (j + 1) (g :: L) = (acc ++ tI 0 g ++ [(2, 0)]) ++ gJ (j + 1 + 1) L := by simp [gJ]
      rw [e]
      have gq : 0 < j + 1 := by omega
      have e2' : ∀ Q : List T, (Q ++ [(2, 0)]).map e2 = Q.map e2 ++ [DV.st [.i 2, .i 0]] := fun Q => by rw [List.map_append]; rfl
      rw [e2'] at ih
      generalize acc ++ tI 0 g = Q at *
      generalize j + 1 = q at *
      have tk : List.take Q.length (Q.map e2) = Q.map e2 := List.take_of_length_le (by simp)
      simp [F_spec_GroupTerm_L0, k1, k1', C, b1, gq, w1, tk, -Int.natCast_add] at ih I ⊢
      simp [I, ih, gq, b1, w1, -Int.natCast_add]
theorem c_spec_GroupTerm (m : Int) (L : List (List Int)) (hb : (L.length : Int) < 1099511627776) (hf : (L.flatten.length : Int) < 1099511627776) : call lf n_spec_GroupTerm [.i m, .sl 0 (L.map eR)] = some (.fr 2 ((gtL m L).map e2), []) := by
  rw [call_k lf n_spec_GroupTerm _ (F := F_spec_GroupTerm) rfl rfl]
  have C := c_spec_GroupsOk m L hb hf
  cases h : gokB m L with
  | false =>
    rw [h] at C
    have e : gtL m L = [] := by unfold gtL; rw [h]; rfl
    rw [e]
    have W : ex lf F_spec_GroupTerm_W0 (stU0 m L [] 0) = some (.exit 0, stU0 m L [] 0) := by
      rw [w_spec_GroupTerm_0]
      by_cases h0 : 0 < L.length
      · simp [stU0, F_spec_GroupTerm_L0, C, h0]
      · simp [stU0, F_spec_GroupTerm_L0, C, h0]
    unfold stU0 at W
    simp only [List.length_nil, List.map_nil, Int.natCast_zero] at W
    simp [F_spec_GroupTerm, W]
  | true =>
    rw [h] at C
    have hh := h
    unfold gokB at hh
    rw [Bool.and_eq_true] at hh
    have hm := (orOk_iff.1 hh.2).1
    obtain ⟨n, rfl⟩ : ∃ n : Nat, m = n := ⟨m.toNat, by omega⟩
    obtain ⟨N, rfl, G⟩ := gok_of (by omega) h
    have e : gtL n (N.map ni) = grL N := by unfold gtL; rw [h, toNat_ni]; rfl
    have lN := rows_le G
    have lf' := gok_len G
    have I := u_outer n (N.map ni) (by simp; omega) C N 0 [] (fun g hg => by have := row_le G hg; omega) (by simp only [List.length_nil]; omega) rfl (by simp)
    unfold stU0 at I
    rw [List.nil_append, gJ_grL] at I
    rw [e]
    generalize grL N = Q at *
    generalize N.map ni = L at *
    have tk : List.take Q.length (Q.map e2) = Q.map e2 := List.take_of_length_le (by simp)
    simp only [List.length_nil, List.map_nil, Int.natCast_zero] at I
    simp [F_spec_GroupTerm, I, tk]
end
section
attribute [-simp] DV.cells
attribute [local simp] sliceD cells_st cells_sl cells_i cells_y cells_b cells_s cells_w
attribute [local simp] lend_eR al_eR lend_eN adopt_eN new_eN
theorem at_eN2 {A : List (List Int)} {k : Nat} {r : List Int} (h : A[k]? = some r) : atI (A.map eN) (k : Int) = some (.sl 1 (r.map .i)) ∧ atN (A.map eN) k = some (.sl 1 (r.map .i)) := by
  have e : (A.map eN)[k]? = some (.sl 1 (r.map .i)) := by rw [List.getElem?_map, h]; rfl
  refine ⟨?_, e⟩
  simp only [atI, if_pos (Int.natCast_nonneg k)]
  show (A.map eN)[(k : Int).toNat]? = _
  rw [Int.toNat_natCast]; exact e
def stM2 (m : Nat) (A : List (List Int)) (t : List T) (s : Nat) (each some_ : Bool) (k j : Nat) : LS :=
  ⟨[(3, .i m), (4, .own 8202 A.length 0 A.length), (5, .own 10768 t.length 0 t.length), (6, .i s), (7, .b each), (8, .i k), (9, .b some_), (10, .i j)], [(8202, A.map eN), (10768, t.map e2)]⟩
theorem m2_loop (m : Nat) (A : List (List Int)) (t : List T) (s : Nat) (each : Bool) {k : Nat} {g : List Nat} (hk : A[k]? = some (ni g)) (h5 : g.length ≤ 5) (hg : ∀ a ∈ g, a < 5) : ∀ (r : List Nat) (j : Nat) (so : Bool), g.drop j = r → j + r.length = g.length →
    ex lf F_laws_FnGroupTerm_W2 (stM2 m A t s each so k j) = some (.exit 4, stM2 m A t s each (so || r.any fun a => s.testBit a) k g.length) := by
  obtain ⟨b1, b2⟩ := at_eN2 hk
  have kA : k < A.length := (List.getElem?_eq_some_iff.1 hk).1
  have kA' : (k : Int) < A.length := by omega
  have ng := ni_len g
  intro r
  induction r with
  | nil =>
    intro j so hd hj
    have e : j = g.length := by simpa using hj
    subst e
    rw [w_laws_FnGroupTerm_2]
    simp [stM2, F_laws_FnGroupTerm_L2, b1, b2, kA, kA', ng]
  | cons a r ih0 =>
    intro j so hd hj
    obtain ⟨k1, k2, k3⟩ := drop_cons hd
    simp only [List.length_cons] at hj
    have k1' : (j : Int) < g.length := by omega
    obtain ⟨a1, a2⟩ := at_ni k2
    have a5 := hg a (List.mem_of_getElem? k2)
    have w1 := wr_succ (k := j) (by omega)
    have bb := bit_bI (a := s) (s := a) (by omega)
    have ih := fun so => ih0 (j + 1) so k3 (by omega)
    have n0 : ¬ ((a : Int) < 0) := by omega
    rw [w_laws_FnGroupTerm_2]
    cases so with
    | true =>
      have ih := ih true
      unfold stM2 at *
      simp only [Bool.true_or] at ih ⊢
      simp [F_laws_FnGroupTerm_L2, b1, b2, kA, kA', ng, k1, k1', w1, ih, -Int.natCast_add]
    | false =>
      have ih := ih (s.testBit a)
      unfold stM2 at *
      simp only [Bool.false_or, List.any_cons]
      cases hb : s.testBit a with
      | true =>
        rw [hb] at bb ih
        have q : (bI true == 1) = true := rfl
        simp only [Bool.true_or] at ih ⊢
        simp [F_laws_FnGroupTerm_L2, b1, b2, kA, kA', ng, k1, k1', a1, a2, w1, n0, bb, q, ih, -Int.natCast_add]
      | false =>
        rw [hb] at bb ih
        have q : (bI false == 1) = false := rfl
        simp only [Bool.false_or] at ih ⊢
        simp [F_laws_FnGroupTerm_L2, b1, b2, kA, kA', ng, k1, k1', a1, a2, w1, n0, bb, q, ih, -Int.natCast_add]
def stM1 (m : Nat) (A : List (List Int)) (t : List T) (s : Nat) (each : Bool) (k : Nat) : LS :=
  ⟨[(3, .i m), (4, .own 8202 A.length 0 A.length), (5, .own 10768 t.length 0 t.length), (6, .i s), (7, .b each), (8, .i k)], [(8202, A.map eN), (10768, t.map e2)]⟩
theorem m1_loop (m : Nat) (N : List (List Nat)) (t : List T) (s : Nat) (hN : N.length ≤ 1000) (h5 : ∀ g ∈ N, g.length ≤ 5 ∧ ∀ a ∈ g, a < 5) : ∀ (R : List (List Nat)) (k : Nat) (each : Bool), N.drop k = R → k + R.length = N.length →
    ex lf F_laws_FnGroupTerm_W1 (stM1 m (N.map ni) t s each k) = some (.exit 2, stM1 m (N.map ni) t s (each && gV R s) N.length) := by
  have lA : (N.map ni).length = N.length := by simp
  intro R
  induction R with
  | nil =>
    intro k each hd hk
    have e : k = N.length := by simpa using hk
    subst e
    rw [w_laws_FnGroupTerm_1]
    simp [stM1, F_laws_FnGroupTerm_L1, gV]
  | cons g R ih0 =>
    intro k each hd hk
    obtain ⟨k1, k2, k3⟩ := drop_cons hd
    simp only [List.length_cons] at hk
    have k1' : (k : Int) < N.length := by omega
    obtain ⟨g5, ga⟩ := h5 g (List.mem_of_getElem? k2)
    have w1 := wr_succ (k := k) (by omega)
    have I := m2_loop m (N.map ni) t s each (k := k) (g := g) (by rw [List.getElem?_map, k2]; rfl) g5 ga g 0 false rfl (by omega)
    rw [Bool.false_or] at I
    have ih := ih0 (k + 1) (each && g.any fun a => s.testBit a) k3 (by omega)
    have e : (each && gV (g :: R) s) = ((each && g.any fun a => s.testBit a) && gV R s) := by simp [gV, Bool.and_assoc]
    rw [e, w_laws_FnGroupTerm_1]
    unfold stM2 at I
    unfold stM1 at *
    rw [lA] at I ih ⊢
    simp only [Int.natCast_zero] at I
    generalize (g.any fun a => s.testBit a) = v at *
    generalize (N.map ni) = A at *
    cases each <;> simp [F_laws_FnGroupTerm_L1, k1, k1', w1, I, -Int.natCast_add] at ih ⊢ <;> simp [ih, I, w1, -Int.natCast_add]
def stM0 (m : Nat) (A : List (List Int)) (t : List T) (s : Nat) : LS :=
  ⟨[(3, .i m), (4, .own 8202 A.length 0 A.length), (5, .own 10768 t.length 0 t.length), (6, .i s)], [(8202, A.map eN), (10768, t.map e2)]⟩
theorem m0_loop {m : Nat} (hm : 1 ≤ m ∧ m ≤ 5) {N : List (List Nat)} (G : Gok m N) {t : List T} (ht : t.length ≤ 9) (tm : tmOk m t = true) (tvv : ∀ s, s < 2 ^ m → tv t s = gV N s) : ex lf F_laws_FnGroupTerm_W0 (stM0 m (N.map ni) t 0) = some (.exit 0, stM0 m (N.map ni) t (2 ^ m)) := by
  have p5 : 2 ^ m ≤ 32 := by
    have : m = 1 ∨ m = 2 ∨ m = 3 ∨ m = 4 ∨ m = 5 := by omega
    rcases this with rfl | rfl | rfl | rfl | rfl <;> decide
  have sh : shlI 1 (m : Int) = ((2 ^ m : Nat) : Int) := by
    rw [shl1 (by omega) (by omega), Int.toNat_natCast]; rfl
  have n0 : ¬ ((m : Int) < 0) := by omega
  have lN := rows_le G
  have tk := tk_e2 t
  refine loop_count (2 ^ m) (fun s => stM0 m (N.map ni) t s) (fun s hs => ?_) ?_ (by simp)
  · have hs' : (s : Int) < ((2 ^ m : Nat) : Int) := by omega
    have w1 := wr_succ (k := s) (by omega)
    have I := m1_loop m N t s (by omega) (fun g hg => ⟨by have := row_le G hg; omega, fun a ha => by have := G.lt g hg a ha; omega⟩) N 0 true rfl (by simp)
    rw [Bool.true_and] at I
    have V := c_impl_ValueOf m t s (by omega)
    have ev : vOf m t s = gV N s := by
      unfold vOf
      have sp : (s : Int) < (2 : Int) ^ m := by
        have : ((s : Nat) : Int) < ((2 ^ m : Nat) : Int) := by omega
        rw [Int.natCast_pow] at this
        exact this
      have st : stOk m s = true := stOk_iff.2 ⟨by omega, by omega, by rw [Int.toNat_natCast]; exact sp⟩
      rw [tm, st, Int.toNat_natCast, tvv s hs]; rfl
    rw [ev] at V
    unfold stM1 at I
    unfold stM0
    simp only [Int.natCast_zero] at I
    generalize gV N s = v at *
    generalize 2 ^ m = q at *
    generalize (N.map ni) = A at *
    cases v <;> simp [F_laws_FnGroupTerm_L0, n0, sh, hs, hs', w1, I, V, tk, -Int.natCast_add]
  · generalize 2 ^ m = q at *
    simp [stM0, F_laws_FnGroupTerm_L0, n0, sh]
set_option maxHeartbeats 16000000 in
theorem law_FnGroupTerm (x : List Nat) (_ : x.length ≤ Go.maxLen) (hb : ∀ y ∈ x, y < 256) : call lf n_laws_FnGroupTerm [bys x] = some (.b true, []) := by
  show call lf n_laws_FnGroupTerm [.sl 0 (x.map .y)] = _
  rw [call_k lf n_laws_FnGroupTerm _ (F := F_laws_FnGroupTerm) rfl rfl]
  by_cases hl : 1048576 < (x.length : Int)
  · simp (config := { maxSteps := 2000000 }) [F_laws_FnGroupTerm, hl]
  · obtain ⟨m, R, m1, r1, r2, d⟩ := c_DrawGroupTerm hb (by omega)
    have C1 := c_impl_GroupTerm m R (by omega)
    have C2 := c_spec_GroupTerm m R (by omega) (by omega)
    have C3 := c_impl_GroupsOk m R (by omega)
    have tl := gtL_le m R
    have S := c_sameMarks (gtL m R) (gtL m R) (by omega)
    rw [beq_self_eq_true] at S
    have lb2 : R.length ≤ bound := by unfold bound; omega
    have tk2 : List.take R.length (R.map eN) = R.map eN := List.take_of_length_le (by simp)
    cases h2 : gokB m R with
    | false =>
      rw [h2] at C3
      have e : gtL m R = [] := by unfold gtL; rw [h2]; rfl
      rw [e] at C1 C2 S
      simp only [List.map_nil] at C1 C2 S
      simp (config := { maxSteps := 2000000 }) [F_laws_FnGroupTerm, hl, d, C1, C2, C3, S, lb2, tk2, c_alive]
    | true =>
      obtain ⟨N, rfl, G⟩ := gok_of m1 h2
      have e : gtL m (N.map ni) = grL N := by unfold gtL; rw [h2, toNat_ni]; rfl
      rw [e] at C1 C2 S tl
      obtain ⟨t1, t2, t3, t4⟩ := gr_term m1.1 m1.2 G
      have gb := grL_bd m1.1 G
      have L := m0_loop m1 G (t := grL N) tl t1 t4
      have O1 := c_impl_OnceOk m (grL N) (by omega)
      have O2 := c_impl_LettersOf m (grL N) (by omega)
      rw [t2] at O1
      rw [t3] at O2
      have p5 : (2 : Int) ^ m ≤ 32 ∧ 1 ≤ (2 : Int) ^ m := by
        have : m = 1 ∨ m = 2 ∨ m = 3 ∨ m = 4 ∨ m = 5 := by omega
        rcases this with rfl | rfl | rfl | rfl | rfl <;> decide
      have sh : shlI 1 (m : Int) = (2 : Int) ^ m := by rw [shl1 (by omega) (by omega), Int.toNat_natCast]
      have w1 : wr ((2 : Int) ^ m - 1) = 2 ^ m - 1 := wr_id (by omega) (by omega)
      have n0 : ¬ ((m : Int) < 0) := by omega
      unfold stM0 at L
      simp only [Int.natCast_zero] at L
      have tk3 := tk_e2 (grL N)
      have z0 : (((grL N).length : Int) == 0) = false := beq_false_of_ne (by omega)
      generalize ((2 ^ m : Nat) : Int) = q2 at *
      generalize (2 : Int) ^ m = q at *
      generalize grL N = t at *
      generalize N.map ni = A at *
      simp (config := { maxSteps := 2000000 }) [F_laws_FnGroupTerm, hl, d, C1, C2, S, L, O1, O2, sh, w1, n0, z0, lb2, tk2, tk3, c_alive]
end
end Zz
