/- What the functions answer, as equations: EA. No conditions. -/
import Derived.Test.YtkokclaabaepaaaIrzd
import Derived.Test.YtkokclaabaepaaaE0
import Derived.Test.YtkokclaabaepaaaLgEzd
set_option linter.unusedSectionVars false
set_option linter.unusedVariables false
set_option linter.unusedSimpArgs false
namespace Zz
open Go.Lg Md
set_option linter.unusedSimpArgs false
set_option linter.unusedVariables false
attribute [local simp] tm_mv tm_newnil tm_pick tm_bin tm_eqb tm_eqs tm_un tm_len tm_lens tm_chk tm_fld tm_fldv tm_idxa tm_idx tm_load tm_store tm_slice tm_slices tm_make tm_alloc tm_box tm_build tm_app tm_conv tm_ext tm_call tm_calld tm_mkfn tm_mm tm_idxp tm_eqn tm_callg tm_callm tm_bslice0 tm_bslice1 tm_bslice2 tm_bslice cw_nil cw_cons cd_none cd_some ec_nil ec_cons es_nil es_one es_more nn_nil nn_cons ns_nil ns_cons si_nil si_cons sk_t stod_oad stod_own stod_adr stod_dead ml_nil ml_cons nt_nil nt_cons nc_nil' nc_cons sa_mkfn cv_adr cv_i cv_y cv_b cv_w sa_calld nm_def nh_nil nh_cons nxM_some nxM_none sc_st sd_i sd_y sd_b sd_s sd_w sd_q sc_i sc_y sc_b sc_s sc_w sc_q sa_bslice sa_app nc_own nc_nil sa_call sa_alloc sa_build sa_callm rm_nil rm_one rm_gen bq_mul bq_eql ia_mv ia_newnil ia_pick ia_bin ia_eqb ia_eqs ia_un ia_len ia_lens ia_chk ia_fld ia_fldv ia_idxa ia_idx ia_load ia_store ia_slice ia_slices ia_make ia_alloc ia_box ia_build ia_bslice ia_app ia_b2i ia_i2b ia_i2i ia_same ia_b2s ia_s2b ia_ext ia_mm ia_idxp ia_calld ia_mkfn ia_i2r ia_r2s ia_call pt_nil pt_cons mi_nil mi_cons md_bslice md_mv md_newnil md_pick md_bin md_eqb md_un md_len md_lens md_fld md_fldv md_idxa md_idx md_load md_store md_slice md_slices md_make md_alloc md_box md_build md_app md_conv md_ext md_call md_calld md_callg md_mkfn md_mm md_idxp md_eqn md_eqs md_chk tg_bslice tg_mv tg_newnil tg_pick tg_bin tg_eqb tg_un tg_len tg_lens tg_fld tg_fldv tg_idxa tg_idx tg_load tg_store tg_slice tg_slices tg_make tg_alloc tg_box tg_build tg_app tg_conv tg_ext tg_call tg_calld tg_callg tg_mkfn tg_mm tg_idxp tg_eqn tg_eqs tg_chk rp_eq ro_eq ifP_t ifP_f np_def ng1_nil ng2_nil ng_gate ng_gen tgA_t tgA_0 tgA_1 tgA_2 aC_nil aC_c aC_t nxP_some nxP_none rq_nil rq_gen rq_gate nxR_some nxR_none ru_nil ru_gen ru_gate pl_none pl_some gt_nil gt_t gt_c di_some di_none an_nil an_cons nxG_some nxG_none rg_nil rg_gen rg_gate oldO_some oa_nil oa_i oa_y oa_b oa_s oa_st oa_sl oa_own oa_oad oa_nl al_nil al_cons al_i al_y al_b al_s al_st al_sl nxF_some nxF_none rf_nil rf_gen rf_gate hk_newnil hk_make hk_alloc hk_box hk_build hk_bslice hk_call hk_store hk_app hk_appn em_cel mm_cel ok_cel ov_cel so_cel il_cel oi_cel oj_cel ol_cel nm_cel hk_appc ef_bslice5 ef_app_cel ks_shut shu_own shc_none shc_cel cl_nil cl_cons ai_nil ai_cons il_i il_y il_b il_s il_st il_sl il_own il_adr il_oad il_ref il_fr il_tup il_nil il_np il_und il_dead ol_adr ol_b ol_dead ol_e ol_fn ol_fr ol_i ol_nil ol_np ol_oad ol_own ol_q ol_r ol_ref ol_s ol_sl ol_st ol_tup ol_und ol_w ol_y oj_e oj_i oj_y oj_b oj_s oj_st oj_sl oj_own oj_adr oj_oad oj_ref oj_fr oj_tup oj_nil oj_np oj_und oj_dead oj_w oj_q oj_r oj_fn oi_e oi_i oi_y oi_b oi_s oi_st oi_sl oi_own oi_adr oi_oad oi_ref oi_fr oi_tup oi_nil oi_np oi_und oi_dead as_nil as_cons ao_nil ao_cons av_i av_y av_b av_s av_st av_sl av_own av_adr av_oad av_ref av_fr av_tup av_nil av_np av_und av_dead pro_cons ghK_some ks_promote ks_freeze frz_own ks_rename ren_own ks_cell cel_own dropO adoptP newP wholeP cutP allOldL ex_skip ex_ret ex_exit ks_region ks_seq ks_cut ks_cond ks_block seqK_n seqK_e seqK_r regK_some condK_t condK_f blkK_n blkK_r blkK_e endK_n endK_r rr_false rr_true rd_free mo_nil mo_cons drK_some drK_none nxW_some nxW_none rw_nil rw_gen rw_gate ak_newnil ak_make ak_alloc ak_box ak_build ak_bslice ak_call ak_store ak_app iw_mm iw_eqn iw_idxp ef_callg cgK_some gv_e gv_own gv_i gv_sl gv_st gv_b gv_nil gvK_some gvO_some iw_callg ia_callg ak_callg hk_callg is_mv is_newnil is_pick is_bin is_eqb is_eqs is_un is_len is_lens is_chk is_fld is_fldv is_idxa is_idx is_load is_slice is_slices is_make is_alloc is_box is_build is_bslice is_app is_conv is_ext is_call is_calld is_callg is_mkfn is_mm is_idxp is_eqn is_store rt_nil rt_gen rt_gate nxT_some nxT_none ef_eqn_nil ef_eqn_sl ef_eqn_own ia_eqn ef_mmx ef_mmn ef_idxp nxD_some nxD_none ov_i ov_y ov_b ov_s ov_st ov_sl ov_own ov_oad ov_adr ov_nil ov_np ov_und ov_dead ov_tup oldN_some oldN_nil oldN_none so_none so_tup DV.noM so_i so_y so_b so_s so_st so_sl so_adr so_nil so_np so_und so_dead anyM_nil anyM_t anyM_c so_own so_oad rd_nil rd_gen rd_mv rd_gate iw_mv iw_newnil iw_pick iw_bin iw_eqb iw_eqs iw_un iw_len iw_lens iw_chk iw_fld iw_fldv iw_idxa iw_idx iw_load iw_store iw_slice iw_slices iw_make iw_alloc iw_box iw_build iw_bslice iw_app iw_b2i iw_i2b iw_i2i iw_same iw_b2s iw_s2b iw_ext iw_call nm_i nm_y nm_b nm_s nm_st nm_sl nm_own nm_oad nm_adr nm_nil nm_np nm_und nm_dead nm_tup rl_nil rl_gate rl_mv rl_gen opv_t opv_c nx_some nx_none gate_tt gate_tf gate_ft gate_ff gate_u fr_ap em_nil em_i em_y em_b em_s em_st em_sl em_own em_adr em_oad em_ref em_nl em_np em_und em_dead em_tup0 em_tup_i em_tup_b em_tup_s em_tup_sl em_tup_st em_tup_np em_tup_own em_tup_oad mm_i mm_y mm_b mm_s mm_st mm_sl mm_own mm_oad mm_adr mm_nil mm_np mm_und mm_dead ef_mv ef_newnil ef_pickt ef_pickf ef_bin ef_eqb ef_eqs ef_un ef_lens ef_len_sl ef_len_own ef_len_nil ef_chk_adr ef_chk_oad ef_fld_adr ef_fld_oad ef_fldv idxR_some ef_idxa_sl ef_idxa_own ef_idx ef_load_adr_st ef_load_adr_i ef_load_adr_y ef_load_adr_b ef_load_adr_s ef_load_adr_sl atN_nil atN_zero atN_succ ef_load_oad ef_store ef_slice ef_slices ef_make ef_alloc ef_box ef_build ef_bslice ef_app_own ef_app_nil ef_b2i ef_i2b ef_i2i ef_same ef_ext ret1 ret2_some calL_some ef_call retC_i retC_y retC_b retC_s retC_st retC_sl retC_np retC_fr retC_ref retC_tup rk_nil rk_i rk_y rk_b rk_s rk_st rk_sl rk_own rk_oad rk_nl ok_nil ok_i ok_y ok_b ok_s ok_st ok_sl ok_own ok_oad ok_nl lo_nil lo_i lo_y lo_b lo_s lo_st lo_sl lo_own lo_oad lo_nl pr_nil pr_i pr_y pr_b pr_s pr_st pr_sl pr_own pr_nl pr_oad nr_i nr_y nr_b nr_s nr_st nr_sl nr_fr nr_np nr_tup ng_i ng_b ng_s ng_fr ng_nil resV effP_eff binD bi_add bi_sub bi_mul bi_quo bi_rem bi_eql bi_neq bi_lss bi_leq bi_gtr bi_geq bi_shl bi_shr bi_and bi_or bi_xor bi_andNot binY binS unD look put putD LS.get LS.drop killE sweep lookO putO dropO enter leave giveBackL giveBack outs lendArgs lendArg newOuts takeIn takeInL lendL DV.lend adoptL DV.adopt elems apartKs part DV.cells unpart settle settleL over mkId szId fillP fillE tk_e2 tk_i tk_y lt_e2 lt_i lt_y lend_rep al_e2 al_is al_ys al_rep al_app lend_app adopt_app new_app lend_e2 lend_i lend_y adopt_e2 adopt_i adopt_y new_e2 new_i allNewL DV.allNew bounds sliceD sliceS em_w em_q em_r em_fn em_tup_w em_tup_q em_tup_r mm_w mm_q mm_r mm_fn ef_load_adr_w ef_load_adr_q ef_load_adr_r retC_w retC_q retC_r rk_w rk_q rk_r rk_fn ok_w ok_q ok_r ok_fn lo_w lo_q lo_r lo_fn pr_w pr_q pr_r pr_fn nr_w nr_q nr_r ng_w ng_q ng_r oa_w oa_q oa_r oa_fn al_w al_q al_r al_fn ov_w ov_q ov_r ov_fn so_w so_q so_r so_fn il_w il_q il_r il_fn oi_w oi_q oi_r oi_fn av_w av_q av_r av_fn nm_w nm_q nm_r nm_fn ef_i2r ef_r2s ef_b2s bs_some ys_nil ys_cons ys_map ef_mkfn ef_mkbd ef_idxp_adr ef_idxp_q ef_calld_nil ef_calld_adr ef_calld_bd DV.capB capsOk DV.cell List.all_cons List.all_nil rk_own_t lo_own_t lk_f lk_t pr_own_t mutB ak_calld hk_calld iw_calld iw_mkfn iw_i2r iw_r2s bw_and bw_or bw_xor bw_andNot bw_eql bw_neq sw_shl sw_shr sq_shl gEnv_nil rk_adr ok_adr lo_adr pr_adr oa_adr capL capArg DV.cap ak_mkfn hk_mkfn hk_mkbd ef_callm gf_ap ga_nil ga_cons tgv_own gk_e gk_giv gk_i gk_y gk_b gk_s gk_w gk_q gk_r gk_fn gk_st gk_sl gk_own gk_oad gk_adr gk_nl gk_np rk_giv ok_giv lo_giv pr_giv oa_giv iw_callm hk_callm ak_callm is_callm ia_callm tg_callm md_callm ef_i2q ef_q2i ef_q2q iw_i2q iw_q2i iw_q2q ia_i2q ia_q2i ia_q2q bq_and bq_add bq_shr sq_shr tgv_nil gk_ref rk_ref ok_ref lo_ref pr_ref oa_ref retC_fn nr_fn ef_load_adr_fn ks_close cls_oad
attribute [local congr] nxM_congr ifP_congr nxP_congr nxR_congr nxT_congr nxG_congr nxF_congr ghK_congr gate_congr nx_congr nxD_congr runL_congr runD_congr eff_congr calL_congr ret2_congr seqK_congr regK_congr condK_congr endK_congr drK_congr nxW_congr
attribute [local simp ↓] nxM_some rm_nil rm_one rm_gen nxT_some rt_nil rt_gen rt_gate nxP_some rq_nil rq_gen rq_gate nxR_some ru_nil ru_gen ru_gate nxG_some rg_nil rg_gen rg_gate nxF_some rf_nil rf_gen rf_gate ks_promote ks_freeze frz_own ks_rename ks_cell ghK_some gate_tt gate_tf gate_ft gate_ff gate_u nx_some nxD_some rl_nil rl_mv rl_gen rl_gate rd_nil rd_mv rd_gen rd_gate rd_free rr_false rr_true drK_some drK_none nxW_some rw_nil rw_gen rw_gate ks_region ks_seq ks_cut ks_cond ks_block seqK_n seqK_e seqK_r regK_some condK_t condK_f blkK_n blkK_r endK_n endK_r calL_some ret2_some opv_t opv_c
section
theorem c_impl_isWithin (a b c : Int) : call lf n_impl_isWithin [.i a, .i b, .i c] = some (.b (decide (b ≤ a ∧ a ≤ c)), []) := by
  rw [call_k lf n_impl_isWithin _ (F := F_impl_isWithin) rfl rfl]
  by_cases h : b ≤ a <;> simp [F_impl_isWithin, h]
theorem c_spec_l1In (a b c : Int) : call lf n_spec_l1In [.i a, .i b, .i c] = some (.b (decide (b ≤ a ∧ a ≤ c)), []) := by
  rw [call_k lf n_spec_l1In _ (F := F_spec_l1In) rfl rfl]
  by_cases h : b ≤ a <;> simp [F_spec_l1In, h]
theorem c_impl_manyOk (a : Int) : call lf n_impl_manyOk [.i a] = some (.b (nOk a), []) := by
  rw [call_k lf n_impl_manyOk _ (F := F_impl_manyOk) rfl rfl]
  simp [F_impl_manyOk, c_impl_isWithin, nOk]

theorem l_impl_TestsOk (n : Int) (hb : n < 1099511627776) (es : List DV) (rest : List T) : ∀ k : Int, 0 ≤ k → k + (rest.map e2).length = n → es.drop k.toNat = rest.map e2 →
    ex lf F_impl_TestsOk_W0 ⟨[(9, .sl 0 es), (10, .i n), (11, .i k)], []⟩ =
    if rest.all tOk then some (.exit 0, ⟨[(9, .sl 0 es), (10, .i n), (11, .i n)], []⟩) else some (.ret, ⟨[(2, .b false)], []⟩) := by
  induction rest with
  | nil =>
    intro k h0 hn hd
    rw [w_impl_TestsOk_0]
    have hk : k = n := by simpa using hn
    simp [F_impl_TestsOk_L0, hk]
  | cons t rest ih =>
    intro k h0 hn hd
    obtain ⟨q1, q2, q3, q4, q5, q6⟩ := stp h0 hn hb hd
    have ih := ih (k + 1) q4 q5 q6
    simp only [e2] at q2
    rw [w_impl_TestsOk_0]
    have xt := tOk_def t
    cases x1 : decide (1 ≤ t.1 ∧ t.1 ≤ 9) <;> cases x2 : decide (1 ≤ t.2 ∧ t.2 ≤ 5) <;> rw [x1, x2] at xt <;> simp [F_impl_TestsOk_L0, q1, q2, q3, c_impl_isWithin, ih, xt, x1, x2, -List.all_eq_true]
theorem c_impl_TestsOk (ts : List T) (hb : (ts.length : Int) < 1099511627776) : call lf n_impl_TestsOk [.sl 0 (ts.map e2)] = some (.b (tsOk ts), []) := by
  rw [call_k lf n_impl_TestsOk _ (F := F_impl_TestsOk) rfl rfl]
  have L := l_impl_TestsOk ts.length hb (ts.map e2) ts 0 (by omega) (by simp) (by simp)
  cases h1 : nOk ts.length <;> cases h2 : ts.all tOk <;> simp [F_impl_TestsOk, c_impl_manyOk, L, h1, h2, tsOk]

theorem l_spec_TestsOk (n : Int) (hb : n < 1099511627776) (es : List DV) (hE : (es.length : Int) = n) (rest : List T) : ∀ k : Int, 0 ≤ k → k + (rest.map e2).length = n → es.drop k.toNat = rest.map e2 →
    ex lf F_spec_TestsOk_W0 ⟨[(0, .sl 0 es), (3, .i k)], []⟩ =
    if rest.all tOk then some (.exit 0, ⟨[(0, .sl 0 es), (3, .i n)], []⟩) else some (.ret, ⟨[(2, .b false)], []⟩) := by
  induction rest with
  | nil =>
    intro k h0 hn hd
    rw [w_spec_TestsOk_0]
    have hk : k = n := by simpa using hn
    simp [F_spec_TestsOk_L0, hk, hE]
  | cons t rest ih =>
    intro k h0 hn hd
    obtain ⟨q1, q2, q3, q4, q5, q6⟩ := stp h0 hn hb hd
    have ih := ih (k + 1) q4 q5 q6
    simp only [e2] at q2
    rw [w_spec_TestsOk_0]
    have xt := tOk_def t
    cases x1 : decide (1 ≤ t.1 ∧ t.1 ≤ 9) <;> cases x2 : decide (1 ≤ t.2 ∧ t.2 ≤ 5) <;> rw [x1, x2] at xt <;> simp [F_spec_TestsOk_L0, q1, q2, q3, hE, c_spec_l1In, ih, xt, x1, x2, -List.all_eq_true]
theorem c_spec_TestsOk (ts : List T) (hb : (ts.length : Int) < 1099511627776) : call lf n_spec_TestsOk [.sl 0 (ts.map e2)] = some (.b (tsOk ts), []) := by
  rw [call_k lf n_spec_TestsOk _ (F := F_spec_TestsOk) rfl rfl]
  have L := l_spec_TestsOk ts.length hb (ts.map e2) (by simp) ts 0 (by omega) (by simp) (by simp)
  cases h2 : ts.all tOk <;> simp [F_spec_TestsOk, c_spec_l1In, L, h2, tsOk, nOk]

theorem nOk_iff {a : Int} : nOk a = true ↔ 1 ≤ a ∧ a ≤ 5 := by simp [nOk]
theorem tsOk_iff {ts : List T} : tsOk ts = true ↔ (1 ≤ (ts.length : Int) ∧ (ts.length : Int) ≤ 5) ∧ ts.all tOk = true := by
  rw [tsOk, Bool.and_eq_true, nOk_iff]
end
section
theorem p2 {ts : List T} (h : tsOk ts = true) : 1 ≤ (2 : Nat) ^ ts.length ∧ (2 : Nat) ^ ts.length ≤ 32 ∧ ((2 ^ ts.length : Nat) : Int) = 2 ^ ts.length := by
  have h' := tsOk_iff.1 h
  have a : (2 : Nat) ^ ts.length ≤ 2 ^ 5 := Nat.pow_le_pow_right (by omega) (by omega)
  exact ⟨Nat.pow_pos (by omega), by omega, by simp⟩
theorem at_e2 {ts : List T} {i : Nat} (hi : i < ts.length) : ∃ t, ts[i]? = some t ∧ t ∈ ts ∧ atI (ts.map e2) i = some (.st [.i t.1, .i t.2]) ∧ ts.take (i + 1) = ts.take i ++ [t] := by
  refine ⟨ts[i], List.getElem?_eq_getElem hi, List.getElem_mem hi, ?_, List.take_succ_eq_append_getElem hi⟩
  simp [atI, hi, e2]
def ot (ts : List T) (i : Nat) : List DV := ((ts.take i).map other).map e2
def cn (ts : List T) (i : Nat) : List DV := ot ts i ++ List.replicate (ts.length - i) (.st [.i 0, .i 0])
end
section
theorem c_toTest (t : T) : call lf n_laws_toTest [e2 t] = some (e2 t, []) := by
  rw [call_k lf n_laws_toTest _ (F := F_laws_toTest) rfl rfl]
  simp [F_laws_toTest, e2]
theorem c_szTestS (ts : List T) (n : Int) (h0 : 0 ≤ n) (h1 : n ≤ 1048576) (hb : (ts.length : Int) ≤ 9223372036854775807) : call lf n_laws_szTestS [.sl 0 (ts.map e2), .i n] = some (.i (if n < ts.length then -1 else n - ts.length), []) := by
  rw [call_k lf n_laws_szTestS _ (F := F_laws_szTestS) rfl rfl]
  have w : wr (n - ts.length) = n - ts.length := wr_id (by omega) (by omega)
  by_cases h : n < ts.length
  · have h' : n - ts.length < 0 := by omega
    simp [F_laws_szTestS, w, h, h']
  · have h' : ¬ n - ts.length < 0 := by omega
    simp [F_laws_szTestS, w, h, h']
def cz (ts : List T) (i : Nat) : List DV := (ts.take i).map e2 ++ List.replicate (ts.length - i) (.st [.i 0, .i 0])
theorem cz_len {ts : List T} {i : Nat} (hi : i ≤ ts.length) : (cz ts i).length = ts.length := by simp [cz]; omega
theorem cz_set {ts : List T} {i : Nat} {t : T} (hi : i < ts.length) (h : ts.take (i + 1) = ts.take i ++ [t]) : (cz ts i).set i (.st [.i t.1, .i t.2]) = cz ts (i + 1) := by
  have : ((ts.take i).map e2).length = i := by simp; omega
  unfold cz
  rw [List.set_append_right _ _ (by omega), this, Nat.sub_self, h, show ts.length - i = (ts.length - (i + 1)) + 1 by omega, List.replicate_succ, List.set_cons_zero, List.map_append, List.append_assoc]
  rfl
theorem cz_get {ts : List T} {i : Nat} (hi : i < ts.length) : atN (cz ts i) i = some (.st [.i 0, .i 0]) := by
  show (cz ts i)[i]? = _
  have : ((ts.take i).map e2).length = i := by simp; omega
  unfold cz
  rw [List.getElem?_append_right (by omega), this, Nat.sub_self, List.getElem?_replicate]
  simp; omega
theorem cz_zero (ts : List T) : cz ts 0 = List.replicate ts.length (.st [.i 0, .i 0]) := by simp [cz]
theorem cz_all (ts : List T) : cz ts ts.length = ts.map e2 := by simp [cz]
theorem c_toTestS (ts : List T) (hb : (ts.length : Int) ≤ 1048576) : call lf n_laws_toTestS [.sl 0 (ts.map e2)] = some (.fr 2 (ts.map e2), []) := by
  rw [call_k lf n_laws_toTestS _ (F := F_laws_toTestS) rfl rfl]
  have L : ex lf F_laws_toTestS_W0 ⟨[(0, .sl 0 (ts.map e2)), (3, .own 3600 ts.length 0 ts.length), (4, .i 0)], [(3600, cz ts 0)]⟩ =
      some (.exit 0, ⟨[(0, .sl 0 (ts.map e2)), (3, .own 3600 ts.length 0 ts.length), (4, .i ts.length)], [(3600, cz ts ts.length)]⟩) := by
    refine loop_count ts.length (fun i => ⟨[(0, .sl 0 (ts.map e2)), (3, .own 3600 ts.length 0 ts.length), (4, .i i)], [(3600, cz ts i)]⟩) (fun i hi => ?_) ?_ (by simp)
    · obtain ⟨t, q1, q2, q3, q4⟩ := at_e2 hi
      have w1 : wr ((i : Int) + 1) = (i : Int) + 1 := wr_id (by omega) (by omega)
      have c1 := cz_len (ts := ts) (i := i) (by omega)
      have c2 := cz_get hi
      have c3 := cz_set hi q4
      have C := c_toTest t
      simp only [e2] at C
      simp [F_laws_toTestS_L0, hi, q3, w1, c1, c2, c3, C]
    · simp [F_laws_toTestS_L0]
  have b1 : (ts.length : Int) ≤ bound := by unfold bound; omega
  rw [cz_zero, cz_all] at L
  simp [F_laws_toTestS, b1, L]
theorem c_eqTest (t u : T) : call lf n_laws_eqTest [e2 t, e2 u] = some (.b (t.1 == u.1 && t.2 == u.2), []) := by
  rw [call_k lf n_laws_eqTest _ (F := F_laws_eqTest) rfl rfl]
  by_cases h1 : t.1 = u.1
  · by_cases h2 : t.2 = u.2
    · simp [F_laws_eqTest, e2, h1, h2]
    · have h3 : (t.2 != u.2) = true := bne_iff_ne.2 h2
      have h4 : (t.2 == u.2) = false := beq_eq_false_iff_ne.2 h2
      simp [F_laws_eqTest, e2, h1, h3, h4]
  · have h3 : (t.1 != u.1) = true := bne_iff_ne.2 h1
    have h4 : (t.1 == u.1) = false := beq_eq_false_iff_ne.2 h1
    simp [F_laws_eqTest, e2, h3, h4]
theorem c_eqTestS_self (aS : List T) (ha : (aS.length : Int) ≤ 1048576) : call lf n_laws_eqTestS [.sl 0 (aS.map e2), .sl 0 (aS.map e2)] = some (.b true, []) := by
  rw [call_k lf n_laws_eqTestS _ (F := F_laws_eqTestS) rfl rfl]
  have L : ex lf F_laws_eqTestS_W0 ⟨[(0, .sl 0 (aS.map e2)), (1, .sl 0 (aS.map e2)), (5, .i 0)], []⟩ = some (.exit 0, ⟨[(0, .sl 0 (aS.map e2)), (1, .sl 0 (aS.map e2)), (5, .i aS.length)], []⟩) := by
    refine loop_count aS.length (fun i => ⟨[(0, .sl 0 (aS.map e2)), (1, .sl 0 (aS.map e2)), (5, .i i)], []⟩) (fun i hi => ?_) ?_ (by simp)
    · obtain ⟨t, q1, q2, q3, q4⟩ := at_e2 hi
      have w1 : wr ((i : Int) + 1) = (i : Int) + 1 := wr_id (by omega) (by omega)
      have C := c_eqTest t t
      simp only [e2, beq_self_eq_true, Bool.and_self] at C
      simp [F_laws_eqTestS_L0, hi, q3, w1, C]
    · simp [F_laws_eqTestS_L0]
  simp [F_laws_eqTestS, L]
end
section
def ci (ts : List Int) (i : Nat) : List DV := (ts.take i).map .i ++ List.replicate (ts.length - i) (.i 0)
theorem ci_len {ts : List Int} {i : Nat} (hi : i ≤ ts.length) : (ci ts i).length = ts.length := by simp [ci]; omega
theorem ci_set {ts : List Int} {i : Nat} {t : Int} (hi : i < ts.length) (h : ts.take (i + 1) = ts.take i ++ [t]) : (ci ts i).set i (.i t) = ci ts (i + 1) := by
  have : ((ts.take i).map DV.i).length = i := by simp; omega
  unfold ci
  rw [List.set_append_right _ _ (by omega), this, Nat.sub_self, h, show ts.length - i = (ts.length - (i + 1)) + 1 by omega, List.replicate_succ, List.set_cons_zero, List.map_append, List.append_assoc]
  rfl
theorem ci_get {ts : List Int} {i : Nat} (hi : i < ts.length) : atN (ci ts i) i = some (.i 0) := by
  show (ci ts i)[i]? = _
  have : ((ts.take i).map DV.i).length = i := by simp; omega
  unfold ci
  rw [List.getElem?_append_right (by omega), this, Nat.sub_self, List.getElem?_replicate]
  simp; omega
theorem ci_zero (ts : List Int) : ci ts 0 = List.replicate ts.length (.i 0) := by simp [ci]
theorem ci_all (ts : List Int) : ci ts ts.length = ts.map .i := by simp [ci]
theorem at_i {ks : List Int} {i : Nat} (hi : i < ks.length) : ∃ k, ks[i]? = some k ∧ k ∈ ks ∧ atI (ks.map .i) i = some (.i k) ∧ ks.take (i + 1) = ks.take i ++ [k] := by
  refine ⟨ks[i], List.getElem?_eq_getElem hi, List.getElem_mem hi, ?_, List.take_succ_eq_append_getElem hi⟩
  simp [atI, hi]
theorem c_toIntS (ts : List Int) (hb : (ts.length : Int) ≤ 1048576) : call lf n_laws_toIntS [.sl 0 (ts.map .i)] = some (.fr 1 (ts.map .i), []) := by
  rw [call_k lf n_laws_toIntS _ (F := F_laws_toIntS) rfl rfl]
  have L : ex lf F_laws_toIntS_W0 ⟨[(0, .sl 0 (ts.map .i)), (3, .own 3592 ts.length 0 ts.length), (4, .i 0)], [(3592, ci ts 0)]⟩ =
      some (.exit 0, ⟨[(0, .sl 0 (ts.map .i)), (3, .own 3592 ts.length 0 ts.length), (4, .i ts.length)], [(3592, ci ts ts.length)]⟩) := by
    refine loop_count ts.length (fun i => ⟨[(0, .sl 0 (ts.map .i)), (3, .own 3592 ts.length 0 ts.length), (4, .i i)], [(3592, ci ts i)]⟩) (fun i hi => ?_) ?_ (by simp)
    · obtain ⟨t, q1, q2, q3, q4⟩ := at_i hi
      have w1 : wr ((i : Int) + 1) = (i : Int) + 1 := wr_id (by omega) (by omega)
      have c1 := ci_len (ts := ts) (i := i) (by omega)
      have c2 := ci_get hi
      have c3 := ci_set hi q4
      simp [F_laws_toIntS_L0, hi, q3, w1, c1, c2, c3]
    · simp [F_laws_toIntS_L0]
  have b1 : (ts.length : Int) ≤ bound := by unfold bound; omega
  rw [ci_zero, ci_all] at L
  simp [F_laws_toIntS, b1, L]
theorem c_eqIntS_self (aS : List Int) (ha : (aS.length : Int) ≤ 1048576) : call lf n_laws_eqIntS [.sl 0 (aS.map .i), .sl 0 (aS.map .i)] = some (.b true, []) := by
  rw [call_k lf n_laws_eqIntS _ (F := F_laws_eqIntS) rfl rfl]
  have L : ex lf F_laws_eqIntS_W0 ⟨[(0, .sl 0 (aS.map .i)), (1, .sl 0 (aS.map .i)), (5, .i 0)], []⟩ = some (.exit 0, ⟨[(0, .sl 0 (aS.map .i)), (1, .sl 0 (aS.map .i)), (5, .i aS.length)], []⟩) := by
    refine loop_count aS.length (fun i => ⟨[(0, .sl 0 (aS.map .i)), (1, .sl 0 (aS.map .i)), (5, .i i)], []⟩) (fun i hi => ?_) ?_ (by simp)
    · obtain ⟨t, q1, q2, q3, q4⟩ := at_i hi
      have w1 : wr ((i : Int) + 1) = (i : Int) + 1 := wr_id (by omega) (by omega)
      simp [F_laws_eqIntS_L0, hi, q3, w1]
    · simp [F_laws_eqIntS_L0]
  simp [F_laws_eqIntS, L]
end
section
/-- a mark read with p parts before it -/
def mkS (m p : Int) (t : T) : Option Int :=
  if t.1 = 0 then (if 0 ≤ t.2 ∧ t.2 < m then some (p + 1) else none)
  else if t.1 = 1 then (if t.2 = 0 ∧ 1 ≤ p then some p else none)
  else if t.1 = 2 ∨ t.1 = 3 then (if t.2 = 0 ∧ 2 ≤ p then some (p - 1) else none)
  else none
def runM (m : Int) : Int → List T → Option Int
  | p, [] => some p
  | p, t :: r => match mkS m p t with
    | some q => runM m q r
    | none => none
end
section
inductive Tm where
  | tst (a : Nat)
  | neg (x : Tm)
  | and (x y : Tm)
  | or (x y : Tm)
def ev (s : Nat) : Tm → Bool
  | .tst a => s.testBit a
  | .neg x => !ev s x
  | .and x y => ev s x && ev s y
  | .or x y => ev s x || ev s y
/-- how many parts a mark takes -/
def taken (k : Int) : Nat := if k = 0 then 0 else if k = 1 then 1 else 2
def stepG {P : Type} (mk : T → List P → P) (st : List P) (t : T) : List P := st.take (st.length - taken t.1) ++ [mk t (st.drop (st.length - taken t.1))]
def yesW (a : Nat) : BitVec 32 := match a with
  | 0 => 2863311530#32
  | 1 => 3435973836#32
  | 2 => 4042322160#32
  | 3 => 4278255360#32
  | _ => 4294901760#32
def mkW (t : T) (ps : List (BitVec 32)) : BitVec 32 :=
  if t.1 = 0 then yesW t.2.toNat else if t.1 = 1 then ~~~(ps.getD 0 0) else if t.1 = 2 then ps.getD 0 0 &&& ps.getD 1 0 else ps.getD 0 0 ||| ps.getD 1 0
def tsW (ts : List T) : BitVec 32 := (ts.foldl (stepG mkW) []).headD 0
/-- the value of a term in a state -/
def tv (ts : List T) (s : Nat) : Bool := (tsW ts).getLsbD s
end
section
def hs (bs : List Nat) (p : Int) : Int := (bs.getD (p.tmod bs.length).toNat 0 : Nat) * 131 + (bs.getD ((p * 7 + 3).tmod bs.length).toNat 0 : Nat) * 1117 + p * 29 + p.tdiv bs.length * 53
def pk (bs : List Nat) (p n : Int) : Int := if bs.length = 0 then 0 else if p < bs.length then ((bs.getD p.toNat 0 : Nat) : Int).tmod n else (xorI (hs bs p) ((hs bs p).tdiv 64)).tmod n
theorem byte_lt {bs : List Nat} (hb : ∀ y ∈ bs, y < 256) (i : Nat) : bs.getD i 0 < 256 := by
  by_cases h : i < bs.length
  · have : bs.getD i 0 = bs[i] := by simp [List.getD, h]
    rw [this]
    exact hb _ (List.getElem_mem h)
  · have : bs.getD i 0 = 0 := by simp [List.getD, List.getElem?_eq_none (by omega : bs.length ≤ i)]
    omega
end
section
theorem cells_st (cs : List DV) : (DV.st cs).cells = cs := rfl
theorem cells_sl (p : Nat) (es : List DV) : (DV.sl p es).cells = [DV.sl p es] := rfl
theorem cells_i (n : Int) : (DV.i n).cells = [DV.i n] := rfl
theorem cells_y (n : Nat) : (DV.y n).cells = [DV.y n] := rfl
theorem cells_b (n : Bool) : (DV.b n).cells = [DV.b n] := rfl
theorem cells_s (n : List UInt8) : (DV.s n).cells = [DV.s n] := rfl
attribute [-simp] DV.cells
attribute [local simp] cells_st cells_sl cells_i cells_y cells_b cells_s
def row (t : List T) : DV := .sl 1 (t.map e2)
theorem flat_set (m : T) : ∀ {ps : List (List T)} {A : Nat} {t : List T}, ps[A]? = some t → (ps.set A (t ++ [m])).flatten.length = ps.flatten.length + 1
  | [], _, _, h => by simp at h
  | x :: ps, 0, t, h => by simp at h; subst h; simp; omega
  | x :: ps, A + 1, t, h => by
    simp only [List.getElem?_cons_succ] at h
    have := flat_set m h
    simp at this ⊢
    omega
theorem flat_len : ∀ {ps : List (List T)} {A : Nat} {t : List T}, ps[A]? = some t → t.length ≤ ps.flatten.length
  | [], _, _, h => by simp at h
  | x :: ps, 0, t, h => by simp at h; subst h; simp
  | x :: ps, A + 1, t, h => by
    simp only [List.getElem?_cons_succ] at h
    have := flat_len h
    simp only [List.flatten_cons, List.length_append]; omega
end
section
attribute [-simp] DV.cells
attribute [local simp] cells_st cells_sl cells_i cells_y cells_b cells_s
theorem cells_w (x : BitVec 32) : (DV.w x).cells = [DV.w x] := rfl
attribute [local simp] cells_w
end
section
attribute [-simp] DV.cells
attribute [local simp] cells_st cells_sl cells_i cells_y cells_b cells_s cells_w
attribute [-simp] sliceD
def bI (b : Bool) : Int := if b then 1 else 0
end
section
attribute [-simp] DV.cells sliceD
attribute [local simp] cells_st cells_sl cells_i cells_y cells_b cells_s cells_w
theorem bit_bI {a s : Nat} (hs : s ≤ 60) : (shrI (a : Int) (s : Int)).tmod 2 = bI (a.testBit s) := by
  rw [shr1 (by omega) (by omega), tmod2 (Int.ediv_nonneg (by omega) (Int.le_of_lt (Int.pow_pos (by omega))))]
  unfold bI
  rw [Nat.testBit_eq_decide_div_mod_eq, Int.toNat_natCast]
  have : (a : Int) / 2 ^ s % 2 = ((a / 2 ^ s % 2 : Nat) : Int) := by simp
  rw [this]
  by_cases h : a / 2 ^ s % 2 = 1
  · simp [h]
  · have : a / 2 ^ s % 2 = 0 := by omega
    simp [this]
theorem pow5 {m : Int} (h1 : 1 ≤ m) (h5 : m ≤ 5) : 2 ≤ 2 ^ m.toNat ∧ 2 ^ m.toNat ≤ 32 ∧ ((2 ^ m.toNat : Nat) : Int) = 2 ^ m.toNat := by
  have c : m = 1 ∨ m = 2 ∨ m = 3 ∨ m = 4 ∨ m = 5 := by omega
  rcases c with rfl | rfl | rfl | rfl | rfl <;> decide
end
section
attribute [-simp] DV.cells sliceD
attribute [local simp] cells_st cells_sl cells_i cells_y cells_b cells_s cells_w
/-- 1 if f holds wherever g does below N, 0 if nowhere, else -1 -/
def fo (f g : Nat → Bool) (N : Nat) : Int := if allTo (fun s => !g s || f s) N then 1 else if allTo (fun s => !g s || !f s) N then 0 else -1
/-- What the states say that agree. -/
def agB (ks : List Int) (s : Nat) : Bool := ag ks (s : Int)
end
section
attribute [-simp] DV.cells sliceD
attribute [local simp] cells_st cells_sl cells_i cells_y cells_b cells_s cells_w
/-- what is known of a term by what is known of its tests -/
def foT (m : Int) (ts : List T) (ks : List Int) : Int := fo (tv ts) (agB ks) (2 ^ m.toNat)
def told (m : Nat) (st so : Nat) : List Int := (List.range m).map fun k => if so.testBit k then bI (st.testBit k) else -1
theorem bI_eq1 (b : Bool) : (bI b == 1) = b := by cases b <;> rfl
end
section
attribute [-simp] DV.cells sliceD
attribute [local simp] cells_st cells_sl cells_i cells_y cells_b cells_s cells_w
def agW : List Int → Nat → BitVec 32 → BitVec 32
  | [], _, w => w
  | k :: r, i, w => agW r (i + 1) (if k = 0 then w &&& ~~~(yesW i) else if k = 1 then w &&& yesW i else w)
end
section
attribute [-simp] DV.cells sliceD
attribute [local simp] cells_st cells_sl cells_i cells_y cells_b cells_s cells_w
theorem div_bI (a s : Nat) : (a : Int) / 2 ^ s % 2 = bI (a.testBit s) := by
  unfold bI
  rw [Nat.testBit_eq_decide_div_mod_eq]
  have : (a : Int) / 2 ^ s % 2 = ((a / 2 ^ s % 2 : Nat) : Int) := by simp
  rw [this]
  by_cases h : a / 2 ^ s % 2 = 1
  · simp [h]
  · have : a / 2 ^ s % 2 = 0 := by omega
    simp [this]
theorem c_impl_hasTest (so k : Nat) (hk : k ≤ 40) : call lf n_impl_hasTest [.i so, .i k] = some (.b (so.testBit k), []) := by
  rw [call_k lf n_impl_hasTest _ (F := F_impl_hasTest) rfl rfl]
  have ni : ¬ (k : Int) < 0 := by omega
  have e : andI (shrI (so : Int) (k : Int)) 1 = bI (so.testBit k) := by
    rw [bit_and, shr1 (by omega) (by omega), Int.toNat_natCast, div_bI]
  simp [F_impl_hasTest, ni, e, bI_eq1]
end
section
attribute [-simp] DV.cells
attribute [local simp] cells_st cells_sl cells_i cells_y cells_b cells_s cells_w
theorem or_fin : ∀ (s : _root_.Fin 32) (k : _root_.Fin 5), orI (s.val : Int) ((2 : Int) ^ k.val) = ((s.val ||| 2 ^ k.val : Nat) : Int) := by decide +kernel
theorem or_nat {s k : Nat} (hs : s < 32) (hk : k < 5) : orI (s : Int) ((2 : Int) ^ k) = ((s ||| 2 ^ k : Nat) : Int) := or_fin ⟨s, hs⟩ ⟨k, hk⟩
end
section
/-- each of the tests once, from those on that some tests are -/
def orS (m : Int) : Nat → List Int → Bool
  | _, [] => true
  | so, a :: r => decide (0 ≤ a ∧ a < m) && !so.testBit a.toNat && orS m (so ||| 2 ^ a.toNat) r
def orOk (m : Int) (os : List Int) : Bool := nOk m && decide ((os.length : Int) = m) && orS m 0 os
def setO : Nat → List Int → Nat
  | so, [] => so
  | so, a :: r => setO (so ||| 2 ^ a.toNat) r
theorem orS_cons {m : Int} {so : Nat} {a : Int} {r : List Int} : orS m so (a :: r) = true ↔ (0 ≤ a ∧ a < m) ∧ so.testBit a.toNat = false ∧ orS m (so ||| 2 ^ a.toNat) r = true := by
  simp [orS, and_assoc]
theorem orOk_iff {m : Int} {os : List Int} : orOk m os = true ↔ (1 ≤ m ∧ m ≤ 5) ∧ (os.length : Int) = m ∧ orS m 0 os = true := by
  rw [orOk, Bool.and_eq_true, Bool.and_eq_true, nOk_iff, decide_eq_true_eq, and_assoc]
theorem setO_app : ∀ (so : Nat) (p q : List Int), setO so (p ++ q) = setO (setO so p) q
  | _, [], _ => rfl
  | so, a :: r, q => setO_app (so ||| 2 ^ a.toNat) r q
theorem orS_app {m : Int} : ∀ (so : Nat) (p q : List Int), orS m so (p ++ q) = (orS m so p && orS m (setO so p) q)
  | _, [], q => by simp [orS, setO]
  | so, a :: r, q => by simp only [List.cons_append, orS, setO, orS_app (so ||| 2 ^ a.toNat) r q, Bool.and_assoc]
theorem or_bit (so a k : Nat) : (so ||| 2 ^ a).testBit k = (so.testBit k || decide (a = k)) := by
  rw [Nat.testBit_or, Nat.testBit_two_pow]
theorem or_lt2 {m so a : Nat} (h : so < 2 ^ m) (ha : a < m) : so ||| 2 ^ a < 2 ^ m := Nat.or_lt_two_pow h (Nat.pow_lt_pow_right (by omega) ha)
theorem setO_bit : ∀ {os : List Int} {so k : Nat}, (∀ o ∈ os, 0 ≤ o) → ((setO so os).testBit k = true ↔ so.testBit k = true ∨ (k : Int) ∈ os)
  | [], _, _, _ => by simp [setO]
  | a :: r, so, k, h => by
    have ha := h a (by simp)
    rw [setO, setO_bit (os := r) (fun o ho => h o (by simp [ho])), or_bit]
    simp only [Bool.or_eq_true, decide_eq_true_eq, List.mem_cons]
    have : a.toNat = k ↔ (k : Int) = a := by omega
    rw [this, or_assoc]
/-- how many tests are not among some -/
def uc (so : Nat) : Nat → Nat
  | 0 => 0
  | i + 1 => uc so i + if so.testBit i then 0 else 1
theorem uc_zero : ∀ n, uc 0 n = n
  | 0 => rfl
  | n + 1 => by simp [uc, uc_zero n]
theorem uc_congr {a b : Nat} : ∀ {n}, (∀ k, k < n → a.testBit k = b.testBit k) → uc a n = uc b n
  | 0, _ => rfl
  | n + 1, h => by simp only [uc]; rw [uc_congr (fun k hk => h k (by omega)), h n (by omega)]
theorem uc_or {so a : Nat} : ∀ {n}, a < n → so.testBit a = false → uc (so ||| 2 ^ a) n + 1 = uc so n
  | 0, h, _ => by omega
  | n + 1, h, hb => by
    simp only [uc]
    by_cases e : a = n
    · subst e
      rw [uc_congr (a := so ||| 2 ^ a) (b := so) (fun k hk => by rw [or_bit, decide_eq_false (by omega), Bool.or_false]), or_bit, hb]
      simp
    · have := uc_or (so := so) (a := a) (n := n) (by omega) hb
      rw [or_bit, decide_eq_false e, Bool.or_false]
      omega
theorem uc_all {so : Nat} : ∀ {n}, uc so n = 0 → ∀ k, k < n → so.testBit k = true
  | 0, _, k, hk => by omega
  | n + 1, h, k, hk => by
    simp only [uc] at h
    rcases Nat.lt_succ_iff_lt_or_eq.1 hk with q | rfl
    · exact uc_all (n := n) (by omega) k q
    · cases hb : so.testBit k with
      | true => rfl
      | false => rw [hb] at h; simp at h
theorem uc_setO {m : Int} (hm : 0 ≤ m) : ∀ {os : List Int} {so : Nat}, orS m so os = true → uc (setO so os) m.toNat + os.length = uc so m.toNat
  | [], _, _ => by simp [setO]
  | a :: r, so, h => by
    obtain ⟨h1, h2, h3⟩ := orS_cons.1 h
    have i := uc_setO hm (os := r) h3
    have u := uc_or (so := so) (a := a.toNat) (n := m.toNat) (by omega) h2
    simp only [setO, List.length_cons]; omega
theorem set_all {m : Int} {os : List Int} (h : orOk m os = true) : ∀ k, k < m.toNat → (setO 0 os).testBit k = true := by
  obtain ⟨h1, h2, h3⟩ := orOk_iff.1 h
  have u := uc_setO (by omega) h3
  rw [uc_zero] at u
  exact uc_all (by omega)
def cA (us : List T) (a : Nat) : Int := (us.getD a (0, 0)).1
end
section
theorem orS_nodup {m : Int} : ∀ {os : List Int} {so : Nat}, orS m so os = true ↔ (∀ o ∈ os, (0 ≤ o ∧ o < m) ∧ so.testBit o.toNat = false) ∧ os.Nodup
  | [], so => by simp [orS]
  | a :: r, so => by
    rw [orS_cons, orS_nodup (os := r), List.nodup_cons]
    constructor
    · rintro ⟨h1, h2, h3, h4⟩
      refine ⟨fun o ho => ?_, fun hm => ?_, h4⟩
      · rcases List.mem_cons.1 ho with rfl | ho
        · exact ⟨h1, h2⟩
        · obtain ⟨q1, q2⟩ := h3 o ho
          rw [or_bit, Bool.or_eq_false_iff] at q2
          exact ⟨q1, q2.1⟩
      · have q := (h3 a hm).2
        rw [or_bit] at q; simp at q
    · rintro ⟨h1, h2, h3⟩
      obtain ⟨a1, a2⟩ := h1 a (by simp)
      refine ⟨a1, a2, fun o ho => ?_, h3⟩
      obtain ⟨q1, q2⟩ := h1 o (by simp [ho])
      refine ⟨q1, ?_⟩
      rw [or_bit, q2, Bool.false_or, decide_eq_false]
      intro e
      have : a = o := by omega
      exact h2 (this ▸ ho)
def rng (n : Nat) : List Int := (List.range n).map fun (k : Nat) => (k : Int)
theorem mem_rng {n : Nat} {o : Int} : o ∈ rng n ↔ 0 ≤ o ∧ o < n := by
  unfold rng
  rw [List.mem_map]
  constructor
  · rintro ⟨k, h, rfl⟩; have := List.mem_range.1 h; omega
  · intro h; exact ⟨o.toNat, List.mem_range.2 (by omega), by omega⟩
theorem orOk_len {m : Int} {os : List Int} (h : orOk m os = true) : (os.length : Int) = m := (orOk_iff.1 h).2.1
end
section
def hkn (m : Nat) (ks : List Int) (so : Nat) : Prop := ∀ k, k < m → (ks[k]? = some (-1) ↔ so.testBit k = false)
def non (m : Nat) : List Int := List.replicate m (-1)
end
section
attribute [-simp] DV.cells sliceD
attribute [local simp] cells_st cells_sl cells_i cells_y cells_b cells_s cells_w
theorem hasTest_i {so : Nat} {a : Int} (h0 : 0 ≤ a) (h5 : a < 5) : call lf n_impl_hasTest [.i so, .i a] = some (.b (so.testBit a.toNat), []) := by
  have := c_impl_hasTest so a.toNat (by omega)
  rw [Int.toNat_of_nonneg h0] at this
  exact this
theorem or_i {so : Nat} {a : Int} (hs : so < 32) (h0 : 0 ≤ a) (h5 : a < 5) : orI (so : Int) (shlI 1 a) = ((so ||| 2 ^ a.toNat : Nat) : Int) := by
  rw [shl1 h0 (by omega)]
  exact or_nat hs (by omega)
theorem pow_le5 {m : Int} (h : 1 ≤ m ∧ m ≤ 5) : 2 ^ m.toNat ≤ 32 := (pow5 h.1 h.2).2.1
theorem l_impl_OrderOk {m : Int} (hm : 1 ≤ m ∧ m ≤ 5) (n : Int) (hb : n < 1099511627776) (es : List DV) (rest : List Int) : ∀ (k : Int) (so : Nat), so < 2 ^ m.toNat → 0 ≤ k → k + (rest.map DV.i).length = n → es.drop k.toNat = rest.map .i →
    ex lf F_impl_OrderOk_W0 ⟨[(0, .i m), (5, .i so), (17, .sl 0 es), (18, .i n), (19, .i k)], []⟩ =
    if orS m so rest = true then some (.exit 0, ⟨[(0, .i m), (5, .i (setO so rest : Nat)), (17, .sl 0 es), (18, .i n), (19, .i n)], []⟩) else some (.ret, ⟨[(4, .b false)], []⟩) := by
  have p5 := pow_le5 hm
  induction rest with
  | nil =>
    intro k so hs h0 hn hd
    rw [w_impl_OrderOk_0]
    have hk : k = n := by simpa using hn
    simp [F_impl_OrderOk_L0, hk, orS, setO]
  | cons a rest ih =>
    intro k so hs h0 hn hd
    obtain ⟨q1, q2, q3, q4, q5, q6⟩ := stp h0 hn hb hd
    have w : wr (m - 1) = m - 1 := wr_id (by omega) (by omega)
    rw [w_impl_OrderOk_0]
    by_cases ha : 0 ≤ a ∧ a < m
    · have e1 : decide (0 ≤ a ∧ a ≤ m - 1) = true := decide_eq_true (by omega)
      have e2 : decide (0 ≤ a ∧ a < m) = true := decide_eq_true ha
      have H := hasTest_i (so := so) ha.1 (by omega)
      have n0 : ¬ a < 0 := by omega
      have o := or_i (so := so) (by omega) ha.1 (by omega : a < 5)
      have ih := ih (k + 1) (so ||| 2 ^ a.toNat) (or_lt2 hs (by omega)) q4 q5 q6
      simp only [orS, e2, Bool.true_and, setO]
      cases hb : so.testBit a.toNat with
      | true =>
        rw [hb] at H
        simp [F_impl_OrderOk_L0, q1, q2, q3, w, c_impl_isWithin, e1, H]
      | false =>
        rw [hb] at H
        simp [F_impl_OrderOk_L0, q1, q2, q3, w, c_impl_isWithin, e1, H, n0, o, ih]
    · have e1 : decide (0 ≤ a ∧ a ≤ m - 1) = false := decide_eq_false (by omega)
      have e2 : decide (0 ≤ a ∧ a < m) = false := decide_eq_false ha
      simp only [orS, e2, Bool.false_and]
      simp [F_impl_OrderOk_L0, q1, q2, q3, w, c_impl_isWithin, e1]
theorem c_impl_OrderOk (m : Int) (os : List Int) (hb : (os.length : Int) < 1099511627776) : call lf n_impl_OrderOk [.i m, .sl 0 (os.map .i)] = some (.b (orOk m os), []) := by
  rw [call_k lf n_impl_OrderOk _ (F := F_impl_OrderOk) rfl rfl]
  unfold orOk
  cases h1 : nOk m with
  | false => simp [F_impl_OrderOk, c_impl_manyOk, h1]
  | true =>
    by_cases h2 : (os.length : Int) = m
    · have L := l_impl_OrderOk (nOk_iff.1 h1) os.length hb (os.map .i) os 0 0 (Nat.pow_pos (by omega)) (by omega) (by simp) (by simp)
      simp only [Int.natCast_zero] at L
      cases h3 : orS m 0 os <;> rw [h3] at L <;> simp at L <;> simp [F_impl_OrderOk, c_impl_manyOk, h1, h2, L, h3] <;> (subst h2; simp [L])
    · have y : ((os.length : Int) != m) = true := bne_iff_ne.2 h2
      simp [F_impl_OrderOk, c_impl_manyOk, h1, y, h2]
end
section
theorem rng_nodup (n : Nat) : (rng n).Nodup := List.Pairwise.map _ (fun a b h e => h (by omega)) (List.nodup_range (n := n))
theorem or_perm {m : Int} {os : List Int} (h : orOk m os = true) : os.Perm (rng m.toNat) := by
  obtain ⟨g1, g2, g3⟩ := orOk_iff.1 h
  obtain ⟨n1, n2⟩ := orS_nodup.1 g3
  refine (List.perm_ext_iff_of_nodup n2 (rng_nodup _)).2 fun o => ?_
  constructor
  · intro ho
    exact mem_rng.2 (by have := (n1 o ho).1; omega)
  · intro ho
    have hr := mem_rng.1 ho
    have := set_all h o.toNat (by omega)
    rw [setO_bit (fun x hx => (n1 x hx).1.1)] at this
    rcases this with q | q
    · simp at q
    · rwa [Int.toNat_of_nonneg hr.1] at q
end
section
def fl (s : Int) (i : Nat) : Bool := s / 2 ^ i % 2 == 1
end
section
attribute [-simp] DV.cells sliceD
attribute [local simp] cells_st cells_sl cells_i cells_y cells_b cells_s cells_w
theorem p6 : ∀ {n : Nat}, n ≤ 5 → (1 : Int) ≤ 6 ^ n ∧ (6 : Int) ^ n ≤ 7776 := by
  intro n hn
  have : n = 0 ∨ n = 1 ∨ n = 2 ∨ n = 3 ∨ n = 4 ∨ n = 5 := by omega
  rcases this with rfl | rfl | rfl | rfl | rfl | rfl <;> decide
theorem c_spec_l1Power {n : Nat} (h : n ≤ 5) : call lf n_spec_l1Power [.i n] = some (.i (6 ^ n), []) := by
  have L := loop_count (lf := lf) (L := F_spec_l1Power_L0) n (fun i => ⟨[(0, .i n), (3, .i (6 ^ i)), (4, .i i)], []⟩) (x := .exit 0) (R := ⟨[(0, .i n), (3, .i (6 ^ n)), (4, .i n)], []⟩) (fun i hi => by
    have p := p6 (n := i) (by omega)
    have w1 : wr ((i : Int) + 1) = i + 1 := wr_id (by omega) (by omega)
    have w2 : wr ((6 : Int) ^ i * 6) = 6 ^ (i + 1) := by rw [wr_id (by omega) (by omega), Int.pow_succ]
    simp [F_spec_l1Power_L0, hi, w1, w2]) (by simp [F_spec_l1Power_L0]) (by simp)
  have L' : ex lf F_spec_l1Power_W0 ⟨[(0, .i n), (3, .i 1), (4, .i 0)], []⟩ = some (.exit 0, ⟨[(0, .i n), (3, .i (6 ^ n)), (4, .i n)], []⟩) := L
  rw [call_k lf n_spec_l1Power _ (F := F_spec_l1Power) rfl rfl]
  simp [F_spec_l1Power, L']
def stW (us : List T) (tab : Nat) (os : List Int) (k : Nat) (ks : List Int) (w a sum sd : Int) : LS :=
  ⟨[(0, .sl 0 (us.map e2)), (1, .i tab), (2, .sl 0 (os.map .i)), (3, .i k), (4, .sl 0 (ks.map .i)), (5, .i w), (13, .i a), (14, .i sum), (15, .i sd)], []⟩
end
section
inductive PT where
  | stop
  | ask (k : Nat) (no yes : PT)
def fcd (m : Nat) (t : List T) (ks : List Int) : Bool := foT m t ks != -1
end
section
open Classical in
noncomputable def rc (P : Nat → Prop) : Nat → Nat
  | 0 => 0
  | n + 1 => rc P n + if P n then 1 else 0
end
section
abbrev C3 := Int × Int × Int
/-- a tree with the places of its choices -/
inductive LT where
  | stop
  | ask (p k : Nat) (no yes : LT)
def LT.size : LT → Nat
  | .stop => 0
  | .ask _ _ n y => 1 + n.size + y.size
/-- where one may go on to from a place -/
def nxt (N : Nat) (p : Nat) (a : Int) : Prop := a = -1 ∨ ((p : Int) + 1 ≤ a ∧ a ≤ (N : Int) - 1)
instance (N p : Nat) (a : Int) : Decidable (nxt N p a) := by unfold nxt; infer_instance
/-- the row holds the tree, from a place on -/
def enc (P : List C3) : Int → LT → Prop
  | a, .stop => a = -1
  | a, .ask p k n y => a = (p : Int) ∧ ∃ no ye, P[p]? = some ((k : Int), no, ye) ∧ nxt P.length p no ∧ nxt P.length p ye ∧ enc P no n ∧ enc P ye y
/-- where a row goes on to -/
def rfs : List C3 → List Int
  | [] => []
  | (_, no, ye) :: r => (if no = -1 then [] else [no]) ++ (if ye = -1 then [] else [ye]) ++ rfs r
end
section
def PT.size : PT → Nat
  | .stop => 0
  | .ask _ n y => 1 + n.size + y.size
def rot (P : List C3) : Int := if P = [] then -1 else 0
end
section
attribute [-simp] DV.cells
attribute [local simp] sliceD cells_st cells_sl cells_i cells_y cells_b cells_s cells_w
theorem lend_e3 (P : List C3) : lendL (P.map e3) = P.map e3 := by rw [lendL_map, List.map_map]; rfl
theorem adopt_e3 (o : Bool) (P : List C3) : adoptL o (P.map e3) = P.map e3 := by rw [adoptL_map, List.map_map]; rfl
theorem new_e3 (P : List C3) : allNewL (P.map e3) = true := by rw [allNewL_all, List.all_map, List.all_eq_true]; intro x _; rfl
theorem al_e3 (P : List C3) : allOldL (P.map e3) = true := by rw [allOldL_all, List.all_map, List.all_eq_true]; intro x _; rfl
theorem lt_e3 (n : Nat) (P : List C3) : lendL (List.take n (P.map e3)) = List.take n (P.map e3) := by rw [← List.map_take, lend_e3]
attribute [local simp] lend_e3 adopt_e3 new_e3 al_e3 lt_e3
def C3.nx (c : C3) (b : Bool) : Int := if b then c.2.2 else c.2.1
end
section
def aN : List Int → Nat
  | [] => 0
  | k :: r => (if k = -1 then 0 else 1) + 2 * aN r
def kn : List Int → Nat
  | [] => 0
  | k :: r => (if k = -1 then 0 else 1) + kn r
/-- how many ones there are, for small numbers -/
def pc (x : Nat) : Nat := x % 2 + x / 2 % 2 + x / 4 % 2 + x / 8 % 2 + x / 16 % 2
/-- what agrees, as a number -/
def lfW (ks : List Int) : BitVec 32 := agW ks 0 (4294967295#32)
end
section
abbrev Pts := List (Option (List Int))
/-- one goes on to where it is noted -/
def go3 (m : Nat) (t : List T) (N : Nat) (pts : Pts) (p : Int) (a : Int) (ks : List Int) : Prop :=
  (a = -1 ∧ fcd m t ks = true) ∨ (p + 1 ≤ a ∧ a ≤ (N : Int) - 1 ∧ pts[a.toNat]? = some (some ks))
structure Inv (m : Nat) (t : List T) (P : List C3) (p : Nat) (pts : Pts) : Prop where
  len : pts.length = P.length
  nd : (rfs (P.take p)).Nodup
  rng : ∀ a ∈ rfs (P.take p), 1 ≤ a ∧ a < P.length
  iff_ : ∀ a : Nat, a < P.length → (pts[a]? ≠ some none ↔ (a = 0 ∨ (a : Int) ∈ rfs (P.take p)))
  ok : ∀ (a : Nat) (ks : List Int), pts[a]? = some (some ks) → ks.length = m ∧ ks.all kOk = true ∧ fcd m t ks = false
  loc : ∀ q : Nat, q < p → ∃ (ks : List Int) (k no ye : Int), P[q]? = some (k, no, ye) ∧ pts[q]? = some (some ks) ∧ (0 ≤ k ∧ k < m) ∧ ks[k.toNat]? = some (-1) ∧ go3 m t P.length pts q no (ks.set k.toNat 0) ∧ go3 m t P.length pts q ye (ks.set k.toNat 1)
end
section
attribute [-simp] DV.cells
attribute [local simp] sliceD cells_st cells_sl cells_i cells_y cells_b cells_s cells_w
attribute [local simp] lend_e3 adopt_e3 new_e3 al_e3 lt_e3
def pv (m a : Int) (w v : BitVec 32) : DV := .st [.i m, .i a, .w w, .w v]
/-- the point at which so much is known -/
def pD (m : Nat) (t : List T) (ks : List Int) : DV := pv m (aN ks) (lfW ks) (tsW t)
end
section
attribute [-simp] DV.cells
attribute [local simp] sliceD cells_st cells_sl cells_i cells_y cells_b cells_s cells_w
attribute [local simp] lend_e3 adopt_e3 new_e3 al_e3 lt_e3
def e4 (m : Nat) (t : List T) : Option (List Int) → DV
  | some ks => pD m t ks
  | none => pv 0 0 (0#32) (0#32)
end
section
attribute [-simp] DV.cells
attribute [local simp] sliceD cells_st cells_sl cells_i cells_y cells_b cells_s cells_w
attribute [local simp] lend_e3 adopt_e3 new_e3 al_e3 lt_e3
structure Fin (m : Nat) (t : List T) (P : List C3) (L : LT) (pts : Pts) : Prop where
  inv : Inv m t P P.length pts
  start : go3 m t P.length pts (-1) (rot P) (non m)
end
section
attribute [-simp] DV.cells
attribute [local simp] sliceD cells_st cells_sl cells_i cells_y cells_b cells_s cells_w
theorem c_impl_wholeOf {n : Nat} (hn : n ≤ 5) : call lf n_impl_wholeOf [.i n] = some (.i (6 ^ n), []) := by
  rw [call_k lf n_impl_wholeOf _ (F := F_impl_wholeOf) rfl rfl]
  have L := loop_count (lf := lf) (L := F_impl_wholeOf_L0) n (fun i => ⟨[(3, .i (6 ^ i)), (4, .i n), (5, .i i)], []⟩) (x := .exit 0) (R := ⟨[(3, .i (6 ^ n)), (4, .i n), (5, .i n)], []⟩) (fun i hi => by
    have p := p6 (n := i) (by omega)
    have w1 : wr ((i : Int) + 1) = i + 1 := wr_id (by omega) (by omega)
    have w2 : wr ((6 : Int) ^ i * 6) = 6 ^ i * 6 := wr_id (by omega) (by omega)
    simp [F_impl_wholeOf_L0, hi, w1, w2, Int.pow_succ]) (by simp [F_impl_wholeOf_L0]) (by simp)
  have L' : ex lf F_impl_wholeOf_W0 ⟨[(3, .i 1), (4, .i n), (5, .i 0)], []⟩ = some (.exit 0, ⟨[(3, .i (6 ^ n)), (4, .i n), (5, .i n)], []⟩) := L
  simp [F_impl_wholeOf, L']
end
section
/-- what it costs, the parts in which it ends all, and its whole -/
abbrev I3 := Int × Int × Int
def gM : List I3 → Int
  | [] => 1
  | x :: r => x.2.2 * gM r
def gD : List I3 → Int
  | [] => 0
  | x :: r => x.1 * gM r + (x.2.2 - x.2.1) * gD r
end
section
def pA (us : List T) (k : Nat) : Int := (us.getD k (0, 0)).2
theorem pA_bd {us : List T} (h : us.all tOk = true) {k : Nat} (hk : k < us.length) : 1 ≤ pA us k ∧ pA us k ≤ 5 := by
  unfold pA
  have e : us.getD k (0, 0) = us[k] := by simp [List.getD, hk]
  rw [e]
  have := tOk_iff.1 (List.all_eq_true.1 h us[k] (List.getElem_mem hk))
  omega
/-- groups: all tests, each once -/
structure Gok (m : Nat) (L : List (List Nat)) : Prop where
  lt : ∀ g ∈ L, ∀ k ∈ g, k < m
  nd : L.flatten.Nodup
  all : ∀ k, k < m → k ∈ L.flatten
  ne : ∀ g ∈ L, g ≠ []
end
section
theorem gok_len {m : Nat} {L : List (List Nat)} (G : Gok m L) : L.flatten.length = m := by
  have : L.flatten.Perm (List.range m) := (List.perm_ext_iff_of_nodup G.nd List.nodup_range).2 fun k => by
    rw [List.mem_range]
    refine ⟨fun hk => ?_, G.all k⟩
    obtain ⟨g, h1, h2⟩ := List.mem_flatten.1 hk
    exact G.lt g h1 k h2
  rw [this.length_eq, List.length_range]
end
section
attribute [-simp] DV.cells
attribute [local simp] sliceD cells_st cells_sl cells_i cells_y cells_b cells_s cells_w
theorem lend_eR (L : List (List Int)) : lendL (L.map eR) = L.map eR := by
  rw [lendL_map, List.map_map]
  apply List.map_congr_left
  intro r _
  simp [eR, DV.lend]
theorem al_eR (L : List (List Int)) : allOldL (L.map eR) = true := by
  rw [allOldL_all, List.all_map, List.all_eq_true]
  intro r _
  simp [eR, DV.allOld]
attribute [local simp] lend_eR al_eR
def gokB (m : Int) (L : List (List Int)) : Bool := L.all (fun r => !r.isEmpty) && orOk m L.flatten
def gAl (m : Int) : Nat → List (List Int) → Bool
  | _, [] => true
  | n, r :: L => decide (1 ≤ (r.length : Int) ∧ (r.length : Int) ≤ m - n) && gAl m (n + r.length) L
theorem gAl_iff {m : Int} : ∀ {L : List (List Int)} {n : Nat}, (n : Int) ≤ m → (gAl m n L = true ↔ L.all (fun r => !r.isEmpty) = true ∧ ((n + L.flatten.length : Nat) : Int) ≤ m)
  | [], n, h => by simp [gAl, h]
  | r :: L, n, h => by
    simp only [gAl, Bool.and_eq_true, decide_eq_true_eq, List.all_cons, List.flatten_cons, List.length_append]
    by_cases hr : (r.length : Int) ≤ m - n
    · rw [gAl_iff (L := L) (n := n + r.length) (by omega)]
      cases r with
      | nil => simp
      | cons a r =>
        simp only [List.isEmpty_cons, Bool.not_false, true_and, List.length_cons] at *
        constructor
        · rintro ⟨_, h1, h2⟩; exact ⟨h1, by omega⟩
        · rintro ⟨h1, h2⟩; exact ⟨⟨by omega, by omega⟩, h1, by omega⟩
    · constructor
      · rintro ⟨⟨_, h2⟩, _⟩; exact absurd h2 hr
      · rintro ⟨_, h2⟩; omega
theorem gokB_al {m : Int} (hm : 1 ≤ m ∧ m ≤ 5) (L : List (List Int)) : gokB m L = (gAl m 0 L && orOk m L.flatten) := by
  unfold gokB
  cases h : orOk m L.flatten with
  | false => simp
  | true =>
    have := orOk_len h
    rw [Bool.and_true, Bool.and_true, Bool.eq_iff_iff, gAl_iff (by omega)]
    exact ⟨fun h => ⟨h, by omega⟩, fun h => h.1⟩
def stGk (m : Int) (L : List (List Int)) (acc : List Int) (k : Nat) : LS := ⟨[(0, .i m), (5, .own 2568 acc.length 0 acc.length), (11, .sl 0 (L.map eR)), (12, .i L.length), (13, .i k)], [(2568, acc.map .i)]⟩
theorem l_impl_GroupsOk {m : Int} (hm : 1 ≤ m ∧ m ≤ 5) (A : List (List Int)) (hb : (A.length : Int) < 1099511627776) : ∀ (L : List (List Int)) (k : Nat) (acc : List Int), (acc.length : Int) ≤ m → k + L.length = A.length → A.drop k = L →
    ex lf F_impl_GroupsOk_W0 (stGk m A acc k) = if gAl m acc.length L = true then some (.exit 0, stGk m A (acc ++ L.flatten) A.length) else some (.ret, ⟨[(4, .b false)], []⟩)
  | [], k, acc, ha, hk, hd => by
    have e : k = A.length := by simpa using hk
    subst e
    rw [w_impl_GroupsOk_0]
    simp [stGk, F_impl_GroupsOk_L0, gAl]
  | r :: L, k, acc, ha, hk, hd => by
    simp only [List.length_cons] at hk
    have hlt : (k : Int) < A.length := by omega
    have hd2 : A.drop (k + 1) = L := by rw [← List.drop_drop, hd]; rfl
    have hat : A[k]? = some r := by
      have := congrArg (fun l => l[0]?) hd
      simpa using this
    have at1 : atI (A.map eR) (k : Int) = some (.sl 0 (r.map .i)) := by
      simp only [atI, if_pos (Int.natCast_nonneg k)]
      show (A.map eR)[(k : Int).toNat]? = _
      rw [Int.toNat_natCast, List.getElem?_map, hat]; rfl
    have w1 : wr ((k : Int) + 1) = ((k + 1 : Nat) : Int) := by rw [wr_id (by omega) (by omega)]; omega
    have w2 : wr (m - acc.length) = m - acc.length := wr_id (by omega) (by omega)
    have W := c_impl_isWithin (r.length : Int) 1 (m - acc.length)
    rw [w_impl_GroupsOk_0]
    by_cases hr : 1 ≤ (r.length : Int) ∧ (r.length : Int) ≤ m - acc.length
    · rw [decide_eq_true hr] at W
      have ih := l_impl_GroupsOk hm A hb L (k + 1) (acc ++ r) (by simp; omega) (by omega) hd2
      have e : gAl m acc.length (r :: L) = gAl m (acc ++ r).length L := by simp only [gAl]; rw [decide_eq_true hr]; simp
      rw [e, List.flatten_cons, ← List.append_assoc, ← ih]
      have c1 : acc.length + r.length ≤ bound := by unfold bound; omega
      unfold stGk
      simp [F_impl_GroupsOk_L0, hlt, at1, w1, w2, W, c1, -Int.natCast_add]
    · rw [decide_eq_false hr] at W
      have e : gAl m acc.length (r :: L) = false := by simp only [gAl]; rw [decide_eq_false hr]; rfl
      rw [e]
      unfold stGk
      simp [F_impl_GroupsOk_L0, hlt, at1, w1, w2, W, -Int.natCast_add]
theorem c_impl_GroupsOk (m : Int) (L : List (List Int)) (hb : (L.length : Int) < 1099511627776) : call lf n_impl_GroupsOk [.i m, .sl 0 (L.map eR)] = some (.b (gokB m L), []) := by
  rw [call_k lf n_impl_GroupsOk _ (F := F_impl_GroupsOk) rfl rfl]
  cases h1 : nOk m with
  | false =>
    have e : gokB m L = false := by unfold gokB orOk; simp [h1]
    simp [F_impl_GroupsOk, c_impl_manyOk, h1, e]
  | true =>
    have hm := nOk_iff.1 h1
    rw [gokB_al hm]
    have I := l_impl_GroupsOk hm L hb L 0 [] (by simp; omega) (by simp) rfl
    unfold stGk at I
    simp only [List.length_nil, List.map_nil, Int.natCast_zero, List.nil_append] at I
    cases h2 : gAl m 0 L with
    | false =>
      rw [h2] at I
      simp at I
      simp [F_impl_GroupsOk, c_impl_manyOk, h1, I]
    | true =>
      rw [h2, if_pos rfl] at I
      have l5 := ((gAl_iff (n := 0) (by omega)).1 h2).2
      have C := c_impl_OrderOk m L.flatten (by omega)
      generalize L.flatten = M at *
      have tk : List.take M.length (M.map DV.i) = M.map .i := List.take_of_length_le (by simp)
      simp [F_impl_GroupsOk, c_impl_manyOk, h1, I, C, tk]
end
section
attribute [-simp] DV.cells
attribute [local simp] sliceD cells_st cells_sl cells_i cells_y cells_b cells_s cells_w
attribute [local simp] lend_eR al_eR
theorem at_eR {A : List (List Int)} {k : Nat} {r : List Int} (h : A[k]? = some r) : atI (A.map eR) (k : Int) = some (.sl 0 (r.map .i)) := by
  simp only [atI, if_pos (Int.natCast_nonneg k)]
  show (A.map eR)[(k : Int).toNat]? = _
  rw [Int.toNat_natCast, List.getElem?_map, h]; rfl
theorem atI_int {r : List Int} {j : Nat} {a : Int} (h : r[j]? = some a) : atI (r.map DV.i) (j : Int) = some (.i a) := by
  simp only [atI, if_pos (Int.natCast_nonneg j)]
  show (r.map DV.i)[(j : Int).toNat]? = _
  rw [Int.toNat_natCast, List.getElem?_map, h]; rfl
theorem drop_cons {α : Type} {A : List α} {k : Nat} {r : α} {L : List α} (h : A.drop k = r :: L) : k < A.length ∧ A[k]? = some r ∧ A.drop (k + 1) = L := by
  have hk : k < A.length := by
    rcases Nat.lt_or_ge k A.length with h1 | h1
    · exact h1
    · rw [List.drop_eq_nil_of_le h1] at h; cases h
  refine ⟨hk, ?_, by rw [← List.drop_drop, h]; rfl⟩
  have := congrArg (fun l => l[0]?) h
  simpa using this
theorem wr_succ {k : Nat} (h : (k : Int) < 1099511627776) : wr ((k : Int) + 1) = ((k + 1 : Nat) : Int) := by rw [wr_id (by omega) (by omega)]; omega
def stGi (m : Int) (A : List (List Int)) (so n k j : Nat) : LS := ⟨[(0, .i m), (1, .sl 0 (A.map eR)), (5, .i so), (6, .i n), (7, .i k), (8, .i j)], []⟩
theorem gs_inner (m : Int) (A : List (List Int)) {k : Nat} {R : List Int} (hk : A[k]? = some R) (hkl : (k : Int) < A.length) : ∀ (r : List Int) (j so n : Nat), so < 32 → ((n + r.length : Nat) : Int) < 1099511627776 → (R.length : Int) < 1099511627776 → R.drop j = r → j + r.length = R.length →
    ex lf F_spec_GroupsOk_W1 (stGi m A so n k j) = if orS (min m 5) so r = true then some (.exit 2, stGi m A (setO so r) (n + r.length) k R.length) else some (.ret, ⟨[(4, .b false)], []⟩) := by
  intro r
  induction r with
  | nil =>
    intro j so n hs hn hR hd hj
    have at1 := at_eR hk
    have e : j = R.length := by simpa using hj
    subst e
    rw [w_spec_GroupsOk_1]
    simp [stGi, F_spec_GroupsOk_L1, orS, setO, at1, hkl]
  | cons a r ih0 =>
    intro j so n hs hn hR hd hj
    have at1 := at_eR hk
    obtain ⟨j1, j2, j3⟩ := drop_cons hd
    have j1' : (j : Int) < R.length := by omega
    have at2 := atI_int j2
    simp only [List.length_cons] at hn hj
    have w1 := wr_succ (k := j) (by omega)
    have w2 := wr_succ (k := n) (by omega)
    rw [w_spec_GroupsOk_1]
    by_cases a0 : a < 0
    · have e2 : decide (0 ≤ a ∧ a < min m 5) = false := decide_eq_false (by omega)
      simp only [orS, e2, Bool.false_and]
      simp [stGi, F_spec_GroupsOk_L1, at1, at2, hkl, j1, j1', a0]
    · by_cases a1 : m ≤ a
      · have e2 : decide (0 ≤ a ∧ a < min m 5) = false := decide_eq_false (by omega)
        simp only [orS, e2, Bool.false_and]
        simp [stGi, F_spec_GroupsOk_L1, at1, at2, hkl, j1, j1', a0, a1]
      · by_cases a5 : 5 ≤ a
        · have e2 : decide (0 ≤ a ∧ a < min m 5) = false := decide_eq_false (by omega)
          simp only [orS, e2, Bool.false_and]
          simp [stGi, F_spec_GroupsOk_L1, at1, at2, hkl, j1, j1', a0, a1, a5]
        · have e2 : decide (0 ≤ a ∧ a < min m 5) = true := decide_eq_true (by omega)
          have o := or_i (so := so) (by omega) (by omega : 0 ≤ a) (by omega : a < 5)
          have bb := bit_bI (a := so) (s := a.toNat) (by omega)
          rw [Int.toNat_of_nonneg (by omega)] at bb
          have ih := ih0 (j + 1) (so ||| 2 ^ a.toNat) (n + 1) (or_lt2 (m := 5) hs (by omega)) (by omega) hR j3 (by omega)
          rw [show n + 1 + r.length = n + (r.length + 1) by omega] at ih
          simp only [orS, e2, Bool.true_and, setO, List.length_cons]
          unfold stGi at *
          cases hb : so.testBit a.toNat with
          | true =>
            rw [hb] at bb
            have q : (bI true == 1) = true := rfl
            simp [F_spec_GroupsOk_L1, at1, at2, hkl, j1, j1', a0, a1, a5, bb, q]
          | false =>
            rw [hb] at bb
            have q : (bI false == 1) = false := rfl
            simp [F_spec_GroupsOk_L1, at1, at2, hkl, j1, j1', a0, a1, a5, bb, q, o, w1, w2, ih, -Int.natCast_add]
def gSp (m : Int) : Nat → List (List Int) → Bool
  | _, [] => true
  | so, r :: L => !r.isEmpty && (orS m so r && gSp m (setO so r) L)
theorem gSp_eq (m : Int) : ∀ (L : List (List Int)) (so : Nat), gSp m so L = (L.all (fun r => !r.isEmpty) && orS m so L.flatten)
  | [], so => by simp [gSp, orS]
  | r :: L, so => by
    simp only [gSp, List.all_cons, List.flatten_cons, orS_app, gSp_eq m L]
    cases r.isEmpty <;> cases orS m so r <;> simp
theorem setO32 {m : Int} : ∀ {os : List Int} {so : Nat}, so < 32 → orS (min m 5) so os = true → setO so os < 32
  | [], _, h, _ => h
  | a :: r, so, h, ho => by
    obtain ⟨h1, h2, h3⟩ := orS_cons.1 ho
    exact setO32 (os := r) (or_lt2 (m := 5) h (by omega)) h3
def stGo (m : Int) (A : List (List Int)) (so n k : Nat) : LS := ⟨[(0, .i m), (1, .sl 0 (A.map eR)), (5, .i so), (6, .i n), (7, .i k)], []⟩
theorem gs_outer (m : Int) (A : List (List Int)) (hb : (A.length : Int) < 1099511627776) : ∀ (L : List (List Int)) (k so n : Nat), so < 32 → ((n + L.flatten.length : Nat) : Int) < 1099511627776 → A.drop k = L → k + L.length = A.length →
    ex lf F_spec_GroupsOk_W0 (stGo m A so n k) = if gSp (min m 5) so L = true then some (.exit 0, stGo m A (setO so L.flatten) (n + L.flatten.length) A.length) else some (.ret, ⟨[(4, .b false)], []⟩) := by
  intro L
  induction L with
  | nil =>
    intro k so n hs hn hd hk
    have e : k = A.length := by simpa using hk
    subst e
    rw [w_spec_GroupsOk_0]
    simp [stGo, F_spec_GroupsOk_L0, gSp, setO]
  | cons R L ih0 =>
    intro k so n hs hn hd hk
    obtain ⟨k1, k2, k3⟩ := drop_cons hd
    have k1' : (k : Int) < A.length := by omega
    have at1 := at_eR k2
    simp only [List.flatten_cons, List.length_append] at hn
    simp only [List.length_cons] at hk
    have w1 := wr_succ (k := k) (by omega)
    rw [w_spec_GroupsOk_0]
    by_cases h0 : R = []
    · subst h0
      simp only [gSp]
      simp [stGo, F_spec_GroupsOk_L0, k1, k1', at1]
    · have I := gs_inner m A k2 k1' R 0 so n hs (by omega) (by omega) rfl (by simp)
      have e0 : R.isEmpty = false := by simpa using h0
      have r0 : ((R.length : Int) == 0) = false := by have := List.length_pos_iff.2 h0; exact beq_false_of_ne (by omega)
      simp only [gSp, e0, Bool.not_false, Bool.true_and]
      unfold stGi at I
      unfold stGo at *
      simp only [Int.natCast_zero] at I
      cases h1 : orS (min m 5) so R with
      | false =>
        rw [h1] at I
        simp at I
        simp [F_spec_GroupsOk_L0, k1, k1', at1, r0, I]
      | true =>
        rw [h1, if_pos rfl] at I
        have ih := ih0 (k + 1) (setO so R) (n + R.length) (setO32 hs h1) (by omega) k3 (by omega)
        rw [← Nat.add_assoc, List.flatten_cons, setO_app, List.length_append, ← Nat.add_assoc] at *
        simp only [Bool.true_and]
        simp [F_spec_GroupsOk_L0, k1, k1', at1, r0, I, w1, ih, -Int.natCast_add, -List.length_flatten]
theorem c_spec_GroupsOk (m : Int) (L : List (List Int)) (hb : (L.length : Int) < 1099511627776) (hf : (L.flatten.length : Int) < 1099511627776) : call lf n_spec_GroupsOk [.i m, .sl 0 (L.map eR)] = some (.b (gokB m L), []) := by
  rw [call_k lf n_spec_GroupsOk _ (F := F_spec_GroupsOk) rfl rfl]
  have I := gs_outer m L hb L 0 0 0 (by omega) (by omega) rfl (by simp)
  unfold stGo at I
  simp only [Int.natCast_zero, Nat.zero_add] at I
  have e1 : nOk m = decide (1 ≤ m ∧ m ≤ 5) := rfl
  rw [gSp_eq] at I
  unfold gokB orOk
  rw [e1]
  by_cases hm : 1 ≤ m ∧ m ≤ 5
  · have h1 : decide (1 ≤ m ∧ m ≤ 5) = true := decide_eq_true hm
    have e5 : min m 5 = m := by omega
    rw [e5] at I
    rw [h1]
    cases h3 : (L.all (fun r => !r.isEmpty) && orS m 0 L.flatten) with
    | false =>
      rw [h3] at I
      simp at I
      have e : (L.all (fun r => !r.isEmpty) && (true && decide ((L.flatten.length : Int) = m) && orS m 0 L.flatten)) = false := by
        rw [Bool.true_and, ← Bool.and_assoc, Bool.and_right_comm, h3]; rfl
      rw [e]
      simp [F_spec_GroupsOk, I]
    | true =>
      rw [h3, if_pos rfl] at I
      rw [Bool.and_eq_true] at h3
      rw [h3.1, h3.2]
      generalize L.flatten.length = z at *
      simp [F_spec_GroupsOk, I, c_spec_l1In, h1, Bool.beq_eq_decide_eq]
  · have h1 : decide (1 ≤ m ∧ m ≤ 5) = false := decide_eq_false hm
    rw [h1]
    cases h3 : (L.all (fun r => !r.isEmpty) && orS (min m 5) 0 L.flatten) with
    | false =>
      rw [h3] at I
      simp at I
      simp [F_spec_GroupsOk, I]
    | true =>
      rw [h3, if_pos rfl] at I
      generalize L.flatten.length = z at *
      simp [F_spec_GroupsOk, I, c_spec_l1In, h1]
end
section
attribute [-simp] DV.cells
attribute [local simp] sliceD cells_st cells_sl cells_i cells_y cells_b cells_s cells_w
attribute [local simp] lend_eR al_eR
theorem c_szIntS (r : List Int) (left : Int) (hl : 0 ≤ left ∧ left ≤ 1048576) (hr : r.length ≤ Go.maxLen) : call lf n_laws_szIntS [.sl 0 (r.map .i), .i left] = some (.i (if (r.length : Int) ≤ left then left - r.length else -1), []) := by
  rw [call_k lf n_laws_szIntS _ (F := F_laws_szIntS) rfl rfl]
  have hm : Go.maxLen = 9223372036854775807 := rfl
  have w1 : wr (left - r.length) = left - r.length := wr_id (by omega) (by omega)
  by_cases h : (r.length : Int) ≤ left
  · have n0 : ¬ left - (r.length : Int) < 0 := by omega
    simp [F_laws_szIntS, w1, h, n0]
  · have n0 : left - (r.length : Int) < 0 := by omega
    simp [F_laws_szIntS, w1, h, n0]
def szL (left : Int) : List (List Int) → Int
  | [] => left
  | r :: L => if (r.length : Int) ≤ left then szL (left - r.length) L else -1
theorem szL_ge : ∀ {L : List (List Int)} {left : Int}, 0 ≤ szL left L → (L.flatten.length : Int) ≤ left
  | [], left, h => by simpa [szL] using h
  | r :: L, left, h => by
    simp only [szL] at h
    split at h
    · have := szL_ge h
      simp only [List.flatten_cons, List.length_append]; omega
    · omega
def stSz (A : List (List Int)) (left : Int) (k : Nat) : LS := ⟨[(0, .sl 0 (A.map eR)), (1, .i left), (5, .i k)], []⟩
theorem sz_loop (A : List (List Int)) (hA : A.length ≤ 1048576) : ∀ (L : List (List Int)) (k : Nat) (left : Int), (∀ r ∈ L, r.length ≤ Go.maxLen) → 0 ≤ left ∧ left ≤ 1048576 → A.drop k = L → k + L.length = A.length →
    (szL left L < 0 → ex lf F_laws_szIntSS_W0 (stSz A left k) = some (.ret, ⟨[(4, .i (-1))], []⟩)) ∧ (0 ≤ szL left L → ex lf F_laws_szIntSS_W0 (stSz A left k) = some (.exit 0, stSz A (szL left L) A.length)) := by
  intro L
  induction L with
  | nil =>
    intro k left hr hl hd hk
    have e : k = A.length := by simpa using hk
    subst e
    refine ⟨fun h => by simp only [szL] at h; omega, fun h => ?_⟩
    rw [w_laws_szIntSS_0]
    simp [stSz, F_laws_szIntSS_L0, szL]
  | cons r L ih0 =>
    intro k left hr hl hd hk
    obtain ⟨k1, k2, k3⟩ := drop_cons hd
    have k1' : (k : Int) < A.length := by omega
    have at1 := at_eR k2
    simp only [List.length_cons] at hk
    have w1 := wr_succ (k := k) (by omega)
    have C := c_szIntS r left hl (hr r (by simp))
    simp only [szL]
    unfold stSz at *
    by_cases h : (r.length : Int) ≤ left
    · have ih := ih0 (k + 1) (left - r.length) (fun x hx => hr x (by simp [hx])) (by omega) k3 (by omega)
      rw [if_pos h] at C ⊢
      have n0 : ¬ left - (r.length : Int) < 0 := by omega
      refine ⟨fun hs => ?_, fun hs => ?_⟩
      · rw [w_laws_szIntSS_0]
        have ih := ih.1 hs
        simp [F_laws_szIntSS_L0, k1, k1', at1, C, n0, w1, ih, -Int.natCast_add]
      · rw [w_laws_szIntSS_0]
        have ih := ih.2 hs
        simp [F_laws_szIntSS_L0, k1, k1', at1, C, n0, w1, ih, -Int.natCast_add]
    · rw [if_neg h] at C ⊢
      refine ⟨fun hs => ?_, fun hs => by omega⟩
      rw [w_laws_szIntSS_0]
      simp [F_laws_szIntSS_L0, k1, k1', at1, C]
/-- either it is too large, or this is what it says -/
theorem c_szIntSS (L : List (List Int)) (left : Int) (hl : 0 ≤ left ∧ left ≤ 1048576) (hL : L.length ≤ Go.maxLen) (hr : ∀ r ∈ L, r.length ≤ Go.maxLen) :
    call lf n_laws_szIntSS [.sl 0 (L.map eR), .i left] = some (.i (-1), []) ∨ ∃ z : Int, 0 ≤ z ∧ z ≤ left ∧ (L.length : Int) ≤ left ∧ (L.flatten.length : Int) ≤ left ∧ call lf n_laws_szIntSS [.sl 0 (L.map eR), .i left] = some (.i z, []) := by
  have hm : Go.maxLen = 9223372036854775807 := rfl
  have w1 : wr (left - L.length) = left - L.length := wr_id (by omega) (by omega)
  rw [call_k lf n_laws_szIntSS _ (F := F_laws_szIntSS) rfl rfl]
  by_cases h : (L.length : Int) ≤ left
  · have I := sz_loop L (by omega) L 0 (left - L.length) hr (by omega) rfl (by simp)
    unfold stSz at I
    simp only [Int.natCast_zero] at I
    have n0 : ¬ left - (L.length : Int) < 0 := by omega
    by_cases hs : 0 ≤ szL (left - L.length) L
    · have I := I.2 hs
      have g := szL_ge hs
      have u : ∀ (L : List (List Int)) (a : Int), szL a L ≤ a ∨ szL a L = -1 := by
        intro L
        induction L with
        | nil => intro a; left; simp [szL]
        | cons r L ih =>
          intro a
          simp only [szL]
          split
          · rcases ih (a - r.length) with h | h
            · left; omega
            · right; exact h
          · right; rfl
      refine .inr ⟨szL (left - L.length) L, hs, ?_, h, by omega, ?_⟩
      · rcases u L (left - L.length) with h | h <;> omega
      · simp [F_laws_szIntSS, w1, n0, I]
    · have I := I.1 (by omega)
      left
      simp [F_laws_szIntSS, w1, n0, I]
  · left
    have n0 : left - (L.length : Int) < 0 := by omega
    simp [F_laws_szIntSS, w1, n0]
/-- rows that are new -/
def eN (r : List Int) : DV := .sl 1 (r.map .i)
theorem lend_eN (L : List (List Int)) : lendL (L.map eN) = L.map eR := by
  rw [lendL_map, List.map_map]
  apply List.map_congr_left
  intro r _
  simp [eN, eR, DV.lend]
theorem adopt_eN (o : Bool) (L : List (List Int)) : adoptL o (L.map eN) = L.map eN := by
  rw [adoptL_map, List.map_map]
  apply List.map_congr_left
  intro r _
  simp [eN, DV.adopt, adoptP]
theorem new_eN (L : List (List Int)) : allNewL (L.map eN) = true := by
  rw [allNewL_all, List.all_map, List.all_eq_true]
  intro r _
  simp [eN, DV.allNew, newP]
attribute [local simp] lend_eN adopt_eN new_eN
def cN (A : List (List Int)) (i : Nat) : List DV := (A.take i).map eN ++ List.replicate (A.length - i) (.sl 1 [])
theorem cN_len {A : List (List Int)} {i : Nat} (hi : i ≤ A.length) : (cN A i).length = A.length := by simp [cN]; omega
theorem cN_set {A : List (List Int)} {i : Nat} {r : List Int} (hi : i < A.length) (h : A[i]? = some r) : (cN A i).set i (.sl 1 (r.map .i)) = cN A (i + 1) := by
  have e : ((A.take i).map eN).length = i := by simp; omega
  unfold cN
  rw [List.set_append_right _ _ (by omega), e, Nat.sub_self, List.take_add_one, h, show A.length - i = (A.length - (i + 1)) + 1 by omega, List.replicate_succ, List.set_cons_zero, Option.toList_some, List.map_append, List.append_assoc]
  rfl
theorem cN_get {A : List (List Int)} {i : Nat} (hi : i < A.length) : atN (cN A i) i = some (.sl 1 []) := by
  show (cN A i)[i]? = _
  have : ((A.take i).map eN).length = i := by simp; omega
  unfold cN
  rw [List.getElem?_append_right (by omega), this, Nat.sub_self, List.getElem?_replicate]
  simp; omega
theorem cN_zero (A : List (List Int)) : cN A 0 = List.replicate A.length (.sl 1 []) := by simp [cN]
theorem cN_all (A : List (List Int)) : cN A A.length = A.map eN := by simp [cN]
theorem c_toIntSS (A : List (List Int)) (hA : (A.length : Int) ≤ 1048576) (hr : ∀ r ∈ A, (r.length : Int) ≤ 1048576) : call lf n_laws_toIntSS [.sl 0 (A.map eR)] = some (.fr 1 (A.map eN), []) := by
  rw [call_k lf n_laws_toIntSS _ (F := F_laws_toIntSS) rfl rfl]
  have L : ex lf F_laws_toIntSS_W0 ⟨[(0, .sl 0 (A.map eR)), (3, .own 3592 A.length 0 A.length), (4, .i 0)], [(3592, cN A 0)]⟩ =
      some (.exit 0, ⟨[(0, .sl 0 (A.map eR)), (3, .own 3592 A.length 0 A.length), (4, .i A.length)], [(3592, cN A A.length)]⟩) := by
    refine loop_count A.length (fun i => ⟨[(0, .sl 0 (A.map eR)), (3, .own 3592 A.length 0 A.length), (4, .i i)], [(3592, cN A i)]⟩) (fun i hi => ?_) ?_ (by simp)
    · have hi' : (i : Int) < A.length := by omega
      have k2 : A[i]? = some A[i] := List.getElem?_eq_getElem hi
      have at1 := at_eR k2
      have T := c_toIntS A[i] (hr _ (List.getElem_mem hi))
      have w1 : wr ((i : Int) + 1) = (i : Int) + 1 := wr_id (by omega) (by omega)
      have c1 := cN_len (A := A) (i := i) (by omega)
      have c2 := cN_get hi
      have c3 := cN_set hi k2
      have tk : List.take A[i].length (A[i].map DV.i) = A[i].map .i := List.take_of_length_le (by simp)
      generalize A[i] = r at *
      simp [F_laws_toIntSS_L0, hi, hi', at1, T, w1, c1, c2, c3, tk]
    · simp [F_laws_toIntSS_L0]
  have b1 : (A.length : Int) ≤ bound := by unfold bound; omega
  rw [cN_zero, cN_all] at L
  simp [F_laws_toIntSS, b1, L]
theorem c_eqIntSS_self (A : List (List Int)) (hA : (A.length : Int) ≤ 1048576) (hr : ∀ r ∈ A, (r.length : Int) ≤ 1048576) : call lf n_laws_eqIntSS [.sl 0 (A.map eR), .sl 0 (A.map eR)] = some (.b true, []) := by
  rw [call_k lf n_laws_eqIntSS _ (F := F_laws_eqIntSS) rfl rfl]
  have L : ex lf F_laws_eqIntSS_W0 ⟨[(0, .sl 0 (A.map eR)), (1, .sl 0 (A.map eR)), (5, .i 0)], []⟩ = some (.exit 0, ⟨[(0, .sl 0 (A.map eR)), (1, .sl 0 (A.map eR)), (5, .i A.length)], []⟩) := by
    refine loop_count A.length (fun i => ⟨[(0, .sl 0 (A.map eR)), (1, .sl 0 (A.map eR)), (5, .i i)], []⟩) (fun i hi => ?_) ?_ (by simp)
    · have hi' : (i : Int) < A.length := by omega
      have k2 : A[i]? = some A[i] := List.getElem?_eq_getElem hi
      have at1 := at_eR k2
      have T := c_eqIntS_self A[i] (hr _ (List.getElem_mem hi))
      have w1 : wr ((i : Int) + 1) = (i : Int) + 1 := wr_id (by omega) (by omega)
      generalize A[i] = r at *
      simp [F_laws_eqIntSS_L0, hi, hi', at1, T, w1]
    · simp [F_laws_eqIntSS_L0]
  simp [F_laws_eqIntSS, L]
end
section
structure CS where
  c : Nat → Int
  p : Nat → Int
  q : Nat → Int
  lA : Nat → Nat → Bool
  lB : Nat → Nat → Bool
  ch : List Nat → Nat → Nat
def rk (l : Nat → Nat → Bool) (S : List Nat) (i : Nat) : Nat := S.countP fun x => l x i
/-- what the rule costs -/
def vR (C : CS) : Nat → List Nat → Nat → Int
  | 0, _, _ => 0
  | f + 1, S, k => if k = 0 ∨ S.length < k then 0 else 6 ^ S.length * C.c (C.ch S k) + C.p (C.ch S k) * vR C f (S.erase (C.ch S k)) (k - 1) + C.q (C.ch S k) * vR C f (S.erase (C.ch S k)) k
def CS.V (C : CS) (S : List Nat) (k : Nat) : Int := vR C S.length S k
def CS.W (C : CS) (S : List Nat) (k i : Nat) : Int := 6 ^ S.length * C.c i + C.p i * C.V (S.erase i) (k - 1) + C.q i * C.V (S.erase i) k
end
section
/-- tests, the two orders by ratios, and the least test of both -/
def tltA (us : List T) (a b : Nat) : Bool := decide (cA us a * pA us b < cA us b * pA us a ∨ cA us b * pA us a = cA us a * pA us b ∧ a < b)
def tltB (us : List T) (a b : Nat) : Bool := decide (cA us a * (6 - pA us b) < cA us b * (6 - pA us a) ∨ cA us b * (6 - pA us a) = cA us a * (6 - pA us b) ∧ a < b)
def bothL (us : List T) (S : List Nat) (k : Nat) : List Nat := S.filter fun i => decide (rk (tltA us) S i < k) && decide (rk (tltB us) S i + k ≤ S.length)
def cs (us : List T) : CS := ⟨cA us, pA us, fun i => 6 - pA us i, tltA us, tltB us, fun S k => (bothL us S k).headD 0⟩
end
section
/-- what is not known, and how many yes -/
def unk (m : Nat) (ks : List Int) : List Nat := (List.range m).filter fun k => ks[k]? == some (-1)
end
section
def gS : List I3 → Int
  | [] => 1
  | x :: r => (x.2.2 - x.2.1) * gS r
/-- the parts in which a row ends -/
def gE (l : List I3) : Int := gM l - gS l
/-- cost less a ratio (x by y) times the parts that end -/
def gf (x y : Int) (l : List I3) : Int := y * gD l - x * gE l
theorem gf_nil (x y : Int) : gf x y [] = 0 := by simp [gf, gD, gE, gM, gS]
theorem gf_cons (x y : Int) (a : I3) (l : List I3) : gf x y (a :: l) = (y * a.1 - x * a.2.1) * gM l + (a.2.2 - a.2.1) * gf x y l := by
  unfold gf gE
  simp only [gD, gM, gS]
  grind
/-- what is carried along never falls below nothing -/
def Car (x y A s : Int) (l : List I3) : Prop := ∀ P Q, l = P ++ Q → 0 ≤ A * gM P + s * gf x y P
theorem Car.next {x y A s : Int} {a : I3} {l : List I3} (h : Car x y A s (a :: l)) : Car x y (A * a.2.2 + s * (y * a.1 - x * a.2.1)) (s * (a.2.2 - a.2.1)) l := fun P Q e => by
  have := h (a :: P) Q (by rw [e]; rfl)
  rw [gf_cons] at this
  simp only [gM] at this
  grind
theorem Car.head {x y A s : Int} {a : I3} {l : List I3} (h : Car x y A s (a :: l)) : 0 ≤ A * a.2.2 + s * (y * a.1 - x * a.2.1) := by
  have := h [a] l rfl
  rw [gf_cons, gf_nil] at this
  simp only [gM] at this
  grind
end
section
attribute [-simp] DV.cells
attribute [local simp] sliceD cells_st cells_sl cells_i cells_y cells_b cells_s cells_w
attribute [local simp] lend_eR al_eR
def ni (l : List Nat) : List Int := l.map fun k : Nat => (k : Int)
theorem ni_len (l : List Nat) : (ni l).length = l.length := by simp [ni]
theorem ni_toNat (l : List Nat) : (ni l).map Int.toNat = l := by
  unfold ni
  rw [List.map_map]
  conv => rhs; rw [← List.map_id l]
  apply List.map_congr_left
  intro k _
  simp
theorem atT {us : List T} {k : Nat} (hk : k < us.length) : atI (us.map e2) (k : Int) = some (.st [.i (cA us k), .i (pA us k)]) := by
  simp only [atI, if_pos (Int.natCast_nonneg k)]
  show (us.map e2)[(k : Int).toNat]? = _
  rw [Int.toNat_natCast, List.getElem?_map, List.getElem?_eq_getElem hk]
  unfold cA pA
  simp [List.getD, hk, e2]
theorem cA_bd {us : List T} (h : us.all tOk = true) {k : Nat} (hk : k < us.length) : 1 ≤ cA us k ∧ cA us k ≤ 9 := by
  have := tOk_iff.1 (List.all_eq_true.1 h us[k] (List.getElem_mem hk))
  unfold cA
  simp only [List.getD, List.getElem?_eq_getElem hk, Option.getD_some]
  exact this.1
theorem at_ni {L : List Nat} {j k : Nat} (h : L[j]? = some k) : atI ((ni L).map DV.i) (j : Int) = some (.i k) ∧ atN ((ni L).map DV.i) j = some (.i k) := by
  have h' : (ni L)[j]? = some (k : Int) := by unfold ni; rw [List.getElem?_map, h]; rfl
  refine ⟨atI_int h', ?_⟩
  show ((ni L).map DV.i)[j]? = _
  rw [List.getElem?_map, h']; rfl
end
section
/-- a test in the row of all -/
def itC (us : List T) (k : Nat) : I3 := (6 * cA us k, 6 - pA us k, 6)
def mnO (f : Nat → Option Int) : Nat → Int
  | 0 => -1
  | i + 1 => match f i with
    | none => mnO f i
    | some n => if mnO f i < 0 ∨ n < mnO f i then n else mnO f i
end
section
def e9 (us : List T) (l : List Nat) : Int := gE (l.map (itC us))
abbrev LN := List (List Nat)
/-- chains of tests that are there -/
def LOk (us : List T) (L : LN) : Prop := ∀ c ∈ L, ∀ x ∈ c, x < us.length
end
section
def gLA (us : List T) (L : LN) (f : Nat) (v : LN → Int) (i : Nat) : Option Int := match L.getD i [] with
  | [] => none
  | k :: c => some (cA us k * 6 ^ (f + 1) + pA us k * v (L.set i c))
def m0 (g : Nat → Option Int) (i : Nat) : Int := if mnO g i < 0 then 0 else mnO g i
def lA (us : List T) : Nat → LN → Int
  | 0, _ => 0
  | f + 1, L => m0 (gLA us L f (lA us f)) L.length
theorem p6_pos (n : Nat) : (0 : Int) < 6 ^ n := Int.pow_pos (by decide)
end
section
attribute [-simp] DV.cells
attribute [local simp] sliceD cells_st cells_sl cells_i cells_y cells_b cells_s cells_w
attribute [local simp] lend_eR al_eR
theorem gok_of {m : Nat} (hm : 1 ≤ m ∧ m ≤ 5) {L : List (List Int)} (h : gokB m L = true) : ∃ N : List (List Nat), L = N.map ni ∧ Gok m N := by
  unfold gokB at h
  rw [Bool.and_eq_true] at h
  obtain ⟨h1, h2⟩ := h
  obtain ⟨o1, o2, o3⟩ := orOk_iff.1 h2
  obtain ⟨o4, o5⟩ := orS_nodup.1 o3
  have e : L = (L.map (List.map Int.toNat)).map ni := by
    rw [List.map_map]
    conv => lhs; rw [← List.map_id L]
    apply List.map_congr_left
    intro r hr
    show r = ni (r.map Int.toNat)
    unfold ni
    rw [List.map_map]
    conv => lhs; rw [← List.map_id r]
    apply List.map_congr_left
    intro a ha
    have := (o4 a (List.mem_flatten.2 ⟨r, hr, ha⟩)).1
    show a = ((a.toNat : Nat) : Int)
    omega
  have ef : (L.map (List.map Int.toNat)).flatten = L.flatten.map Int.toNat := by rw [List.map_flatten]
  have lt : ∀ g ∈ L.map (List.map Int.toNat), ∀ k ∈ g, k < m := by
    intro g hg k hk
    obtain ⟨r, hr, rfl⟩ := List.mem_map.1 hg
    obtain ⟨a, ha, rfl⟩ := List.mem_map.1 hk
    have := (o4 a (List.mem_flatten.2 ⟨r, hr, ha⟩)).1
    omega
  have nd : (L.map (List.map Int.toNat)).flatten.Nodup := by
    rw [ef, List.nodup_iff_pairwise_ne, List.pairwise_map]
    refine List.Pairwise.imp_of_mem (fun {a b} ha hb hab h => hab ?_) (List.nodup_iff_pairwise_ne.1 o5)
    have := (o4 a ha).1
    have := (o4 b hb).1
    omega
  refine ⟨_, e, lt, nd, fun k hk => ?_, ?_⟩
  · rw [ef, List.mem_map]
    have p := (or_perm h2).mem_iff.2 (mem_rng.2 (show 0 ≤ (k : Int) ∧ (k : Int) < ((m : Int).toNat : Nat) by omega))
    exact ⟨(k : Int), p, by simp⟩
  · intro g hg
    obtain ⟨r, hr, rfl⟩ := List.mem_map.1 hg
    have := List.all_eq_true.1 h1 r hr
    simpa using this
end
section
attribute [-simp] DV.cells
attribute [local simp] sliceD cells_st cells_sl cells_i cells_y cells_b cells_s cells_w
attribute [local simp] lend_eR al_eR
/-- how many of a chain are asked -/
def inP (p c : List Nat) : Nat := (p.map fun o => c.count o).sum
def left (C : LN) (p : List Nat) : LN := C.map fun c => c.drop (inP p c)
theorem flat_ge9 : ∀ {C : LN}, (∀ c ∈ C, c ≠ []) → C.length ≤ C.flatten.length
  | [], _ => by simp
  | c :: C, h => by
    have := flat_ge9 (C := C) fun d hd => h d (List.mem_cons_of_mem _ hd)
    have c0 : 0 < c.length := List.length_pos_iff.2 (h c List.mem_cons_self)
    simp only [List.length_cons, List.flatten_cons, List.length_append]
    omega
end
section
attribute [-simp] DV.cells
attribute [local simp] sliceD cells_st cells_sl cells_i cells_y cells_b cells_s cells_w
attribute [local simp] lend_eR al_eR
def natL (L : List (List Int)) : LN := L.map fun r => r.map Int.toNat
theorem natL_ni (N : LN) : natL (N.map ni) = N := by
  unfold natL
  rw [List.map_map]
  conv => rhs; rw [← List.map_id N]
  apply List.map_congr_left
  intro r _
  exact ni_toNat r
end
section
def rC (us : List T) : List Nat → Int
  | [] => 0
  | k :: r => cA us k + rC us r
def rP (us : List T) : List Nat → Int
  | [] => 1
  | k :: r => pA us k * rP us r
/-- what rounds cost, in parts of their own -/
def rD (us : List T) (fee : Int) : LN → Int
  | [] => 0
  | g :: r => (fee + rC us g) * 6 ^ (g.length + r.flatten.length) + rP us g * rD us fee r
theorem rC_app (us : List T) : ∀ p q : List Nat, rC us (p ++ q) = rC us p + rC us q
  | [], q => by simp [rC]
  | k :: p, q => by simp only [List.cons_append, rC]; rw [rC_app us p q]; omega
theorem rP_app (us : List T) : ∀ p q : List Nat, rP us (p ++ q) = rP us p * rP us q
  | [], q => by simp [rP]
  | k :: p, q => by simp only [List.cons_append, rP]; rw [rP_app us p q, Int.mul_assoc]
theorem rC_perm (us : List T) {p q : List Nat} (h : p.Perm q) : rC us p = rC us q := by
  induction h with
  | nil => rfl
  | cons a _ ih => simp only [rC]; rw [ih]
  | swap a b l => simp only [rC]; omega
  | trans _ _ i j => rw [i, j]
theorem rP_perm (us : List T) {p q : List Nat} (h : p.Perm q) : rP us p = rP us q := by
  induction h with
  | nil => rfl
  | cons a _ ih => simp only [rP]; rw [ih]
  | swap a b l => simp only [rP]; rw [← Int.mul_assoc, ← Int.mul_assoc, Int.mul_comm (pA us a)]
  | trans _ _ i j => rw [i, j]
theorem rC_bd {us : List T} (h : us.all tOk = true) : ∀ {g : List Nat}, (∀ k ∈ g, k < us.length) → (g.length : Int) ≤ rC us g ∧ rC us g ≤ 9 * g.length
  | [], _ => by simp [rC]
  | k :: r, hg => by
    have a := rC_bd h (g := r) fun x hx => hg x (List.mem_cons_of_mem _ hx)
    have b := cA_bd h (hg k List.mem_cons_self)
    simp only [rC, List.length_cons]
    omega
theorem rP_bd {us : List T} (h : us.all tOk = true) : ∀ {g : List Nat}, (∀ k ∈ g, k < us.length) → 0 < rP us g ∧ rP us g ≤ 6 ^ g.length
  | [], _ => by simp [rP]
  | k :: r, hg => by
    have a := rP_bd h (g := r) fun x hx => hg x (List.mem_cons_of_mem _ hx)
    have b := pA_bd h (hg k List.mem_cons_self)
    simp only [rP, List.length_cons]
    refine ⟨Int.mul_pos (by omega) a.1, ?_⟩
    rw [Int.pow_succ, Int.mul_comm (6 ^ r.length)]
    exact Int.mul_le_mul (by omega) a.2 (by omega) (by omega)
theorem rD_nn {us : List T} (h : us.all tOk = true) {fee : Int} (hf : 0 ≤ fee) : ∀ {N : LN}, LOk us N → 0 ≤ rD us fee N
  | [], _ => by simp [rD]
  | g :: r, hN => by
    have a := rD_nn h hf (N := r) fun c hc => hN c (List.mem_cons_of_mem _ hc)
    have b := rC_bd h (hN g List.mem_cons_self)
    have c := rP_bd h (hN g List.mem_cons_self)
    have p := p6_pos (g.length + r.flatten.length)
    simp only [rD]
    have m1 := Int.mul_nonneg (show 0 ≤ fee + rC us g by omega) (Int.le_of_lt p)
    have m2 := Int.mul_nonneg (Int.le_of_lt c.1) a
    omega
end
section
attribute [-simp] DV.cells
attribute [local simp] sliceD cells_st cells_sl cells_i cells_y cells_b cells_s cells_w
attribute [local simp] lend_eR al_eR
theorem tdiv6 {a : Int} (h : 0 ≤ a) : (a * 6).tdiv 6 = a := Int.mul_tdiv_cancel a (by omega)
/-- weights stay small -/
theorem wt_le {X p : Int} {n d q : Nat} (h0 : 0 ≤ X) (hx : X * 6 ^ (d + n + q) ≤ 7776) (p0 : 0 < p) (p1 : p ≤ 6 ^ d) : 0 ≤ X * p * 6 ^ (n + q) ∧ X * p * 6 ^ (n + q) ≤ 7776 := by
  have a := p6_pos (n + q)
  refine ⟨Int.mul_nonneg (Int.mul_nonneg h0 (by omega)) (by omega), Int.le_trans ?_ hx⟩
  have e : (6 : Int) ^ (d + n + q) = 6 ^ d * 6 ^ (n + q) := by rw [Nat.add_assoc, Int.pow_add]
  rw [e, ← Int.mul_assoc]
  exact Int.mul_le_mul_of_nonneg_right (Int.mul_le_mul_of_nonneg_left p1 h0) (by omega)
def stRA (us : List T) (L : LN) (fee sum weight : Int) (k : Nat) : LS :=
  ⟨[(0, .sl 0 (us.map e2)), (1, .sl 0 ((L.map ni).map eR)), (2, .i fee), (7, .i sum), (8, .i weight), (9, .i k)], []⟩
def stRB (us : List T) (L : LN) (fee sum weight : Int) (k : Nat) (cost next : Int) (j : Nat) : LS :=
  ⟨[(0, .sl 0 (us.map e2)), (1, .sl 0 ((L.map ni).map eR)), (2, .i fee), (7, .i sum), (8, .i weight), (9, .i k), (10, .i cost), (11, .i next), (12, .i j)], []⟩
set_option maxHeartbeats 4000000 in
theorem ra_inner {us : List T} (h : us.all tOk = true) {L : LN} {fee sum weight : Int} (hf : 0 ≤ fee ∧ fee ≤ 22) {k : Nat} {g : List Nat} (hk : L[k]? = some g) (hg : ∀ x ∈ g, x < us.length) (g5 : g.length ≤ 5) {X : Int} {q : Nat} (h0 : 0 ≤ X) (hx : X * 6 ^ (g.length + q) ≤ 7776) : ∀ (rest don : List Nat), g = don ++ rest →
    ex lf F_spec_RoundAverage_W1 (stRB us L fee sum weight k (fee + rC us don) (X * rP us don * 6 ^ (rest.length + q)) don.length) = some (.exit 2, stRB us L fee sum weight k (fee + rC us g) (X * rP us g * 6 ^ q) g.length) := by
  have A : atI ((L.map ni).map eR) (k : Int) = some (.sl 0 ((ni g).map .i)) := at_eR (by rw [List.getElem?_map, hk]; rfl)
  have hk' : (k : Int) < (L.map ni).length := by have := (List.getElem?_eq_some_iff.1 hk).1; simp; omega
  have nl := ni_len g
  intro rest
  induction rest with
  | nil =>
    intro don e
    rw [List.append_nil] at e
    subst e
    rw [w_spec_RoundAverage_1]
    unfold stRB
    rw [List.length_nil, Nat.zero_add]
    generalize X * rP us g * 6 ^ q = Y at *
    generalize fee + rC us g = Z at *
    generalize L.map ni = L' at *
    simp [F_spec_RoundAverage_L1, A, hk', nl]
  | cons a rest ih0 =>
    intro don e
    have ih := ih0 (don ++ [a]) (by rw [e]; simp)
    have gl : g.length = don.length + (rest.length + 1) := by rw [e]; simp
    have k2 : g[don.length]? = some a := by rw [e]; simp
    have ha : a < us.length := hg a (List.mem_of_getElem? k2)
    obtain ⟨at1, _⟩ := at_ni k2
    have at2 := atT ha
    have cb := cA_bd h ha
    have pb := pA_bd h ha
    have dm : ∀ x ∈ don, x < us.length := fun x hx => hg x (by rw [e]; simp [hx])
    have rc := rC_bd h dm
    have rp := rP_bd h dm
    have dm2 : ∀ x ∈ don ++ [a], x < us.length := fun x hx => by
      rcases List.mem_append.1 hx with q | q
      · exact dm x q
      · rw [List.mem_singleton.1 q]; exact ha
    have rp2 := rP_bd h dm2
    have w1 := wt_le (n := rest.length) (d := (don ++ [a]).length) (q := q) h0 (by rw [List.length_append, List.length_singleton, show don.length + 1 + rest.length + q = g.length + q by omega]; exact hx) rp2.1 rp2.2
    have w2 := wt_le (n := rest.length) (d := don.length) (q := q) h0 (Int.le_trans (Int.mul_le_mul_of_nonneg_left (show (6 : Int) ^ (don.length + rest.length + q) ≤ 6 ^ (g.length + q) from by
      rw [show g.length + q = don.length + rest.length + q + 1 by omega, Int.pow_succ]
      have := p6_pos (don.length + rest.length + q)
      omega) h0) hx) rp.1 rp.2
    have ec : rC us (don ++ [a]) = rC us don + cA us a := by rw [rC_app]; simp [rC]
    have ep : rP us (don ++ [a]) = rP us don * pA us a := by rw [rP_app]; simp [rP]
    rw [ec] at ih
    rw [ep, ← Int.mul_assoc] at ih w1
    have e6 : X * rP us don * 6 ^ (rest.length + 1 + q) = X * rP us don * 6 ^ (rest.length + q) * 6 := by
      rw [show rest.length + 1 + q = rest.length + q + 1 by omega, Int.pow_succ, Int.mul_assoc, Int.mul_assoc, Int.mul_assoc]
    have td := tdiv6 w2.1
    have e7 : X * rP us don * pA us a * 6 ^ (rest.length + q) = X * rP us don * 6 ^ (rest.length + q) * pA us a := by rw [Int.mul_assoc, Int.mul_comm (pA us a), ← Int.mul_assoc]
    rw [e7] at ih w1
    rw [List.length_cons, e6, w_spec_RoundAverage_1]
    rw [List.length_append, List.length_singleton] at ih
    have hj : (don.length : Int) < g.length := by omega
    have hj' : don.length < g.length := by omega
    have w7 := wr_succ (k := don.length) (by omega)
    have ha' : (a : Int) < us.length := by omega
    unfold stRB at *
    rw [← Int.add_assoc] at ih
    generalize X * rP us g * 6 ^ q = Y at *
    generalize X * rP us don * 6 ^ (rest.length + q) = V at *
    generalize fee + rC us g = Z at *
    have w3 : wr (fee + rC us don + cA us a) = fee + rC us don + cA us a := wr_id (by omega) (by omega)
    have w4 : wr (V * pA us a) = V * pA us a := wr_id (by omega) (by omega)
    have w5 : wr V = V := wr_id (by omega) (by omega)
    generalize fee + rC us don = U at *
    generalize cA us a = c at *
    generalize pA us a = p at *
    generalize don.length = n at *
    generalize L.map ni = L' at *
    simp [F_spec_RoundAverage_L1, A, hk', nl, at1, at2, ha, ha', hj, hj', td, w3, w4, w5, w7, ih, -Int.natCast_add]
set_option maxHeartbeats 4000000 in
theorem ra_outer {us : List T} (h : us.all tOk = true) (hm : us.length ≤ 5) {L : LN} {fee : Int} (hf : 0 ≤ fee ∧ fee ≤ 22) (hL : LOk us L) (ln : L.length ≤ 5) (fl : L.flatten.length ≤ 5) : ∀ (r : LN) (k : Nat) (sum X : Int), L.drop k = r → k + r.length = L.length → 0 ≤ X → X * 6 ^ r.flatten.length ≤ 7776 → 0 ≤ sum ∧ sum ≤ 600000 * k →
    ∃ w', ex lf F_spec_RoundAverage_W0 (stRA us L fee sum (X * 6 ^ r.flatten.length) k) = some (.exit 0, stRA us L fee (sum + X * rD us fee r) w' L.length) := by
  have ll : (L.map ni).length = L.length := by simp
  intro r
  induction r with
  | nil =>
    intro k sum X hd hk h0 hx hs
    have e : k = L.length := by simpa using hk
    subst e
    refine ⟨X * 6 ^ ([] : LN).flatten.length, ?_⟩
    rw [w_spec_RoundAverage_0]
    simp only [rD]
    rw [Int.mul_zero, Int.add_zero]
    unfold stRA
    generalize X * 6 ^ ([] : LN).flatten.length = Y at *
    generalize L.map ni = L' at *
    simp [F_spec_RoundAverage_L0, ll]
  | cons g r ih0 =>
    intro k sum X hd hk h0 hx hs
    obtain ⟨k1, k2, k3⟩ := drop_cons hd
    have k1' : (k : Int) < L.length := by omega
    simp only [List.length_cons] at hk
    have hg := hL g (List.mem_of_getElem? k2)
    have gm : g ∈ L := List.mem_of_getElem? k2
    have gl : g.length + r.flatten.length ≤ 5 := by
      have := congrArg (fun x => x.flatten.length) (List.take_append_drop k L)
      simp only [hd, List.flatten_append, List.flatten_cons, List.length_append] at this
      omega
    have rc := rC_bd h hg
    have rp := rP_bd h hg
    have hx' : X * 6 ^ (g.length + r.flatten.length) ≤ 7776 := by rw [List.flatten_cons, List.length_append] at hx; exact hx
    have I := ra_inner (fee := fee) (sum := sum) (weight := X * 6 ^ (g.length + r.flatten.length)) h hf k2 hg (by omega) (q := r.flatten.length) h0 hx' g [] rfl
    have e1 : rC us [] = 0 := rfl
    have e2' : rP us [] = 1 := rfl
    rw [e1, e2', Int.add_zero, Int.mul_one] at I
    have p := p6_pos r.flatten.length
    have hx2 : X * rP us g * 6 ^ r.flatten.length ≤ 7776 := by
      refine Int.le_trans ?_ hx'
      rw [Int.pow_add, ← Int.mul_assoc]
      exact Int.mul_le_mul_of_nonneg_right (Int.mul_le_mul_of_nonneg_left rp.2 h0) (by omega)
    have x2 : 0 ≤ X * rP us g := Int.mul_nonneg h0 (by omega)
    have wb : 0 ≤ X * 6 ^ (g.length + r.flatten.length) := Int.mul_nonneg h0 (Int.le_of_lt (p6_pos _))
    have cb : 0 ≤ (fee + rC us g) * (X * 6 ^ (g.length + r.flatten.length)) ∧ (fee + rC us g) * (X * 6 ^ (g.length + r.flatten.length)) ≤ 70 * 7776 := ⟨Int.mul_nonneg (by omega) wb, Int.mul_le_mul (by omega) hx' wb (by omega)⟩
    obtain ⟨w', J⟩ := ih0 (k + 1) (sum + (fee + rC us g) * (X * 6 ^ (g.length + r.flatten.length))) (X * rP us g) k3 (by omega) x2 hx2 (by omega)
    refine ⟨w', ?_⟩
    have ev : sum + X * rD us fee (g :: r) = sum + (fee + rC us g) * (X * 6 ^ (g.length + r.flatten.length)) + X * rP us g * rD us fee r := by
      simp only [rD]
      generalize (6 : Int) ^ (g.length + r.flatten.length) = P at *
      grind
    rw [ev, ← J, w_spec_RoundAverage_0, List.flatten_cons, List.length_append]
    have w1 := wr_succ (k := k) (by omega)
    have w2 : wr ((fee + rC us g) * (X * 6 ^ (g.length + r.flatten.length))) = (fee + rC us g) * (X * 6 ^ (g.length + r.flatten.length)) := wr_id (by omega) (by omega)
    have w3 : wr (sum + (fee + rC us g) * (X * 6 ^ (g.length + r.flatten.length))) = sum + (fee + rC us g) * (X * 6 ^ (g.length + r.flatten.length)) := wr_id (by omega) (by omega)
    unfold stRA
    unfold stRB at I
    simp only [List.length_nil, Int.natCast_zero] at I
    generalize X * rP us g * 6 ^ r.flatten.length = Y at *
    generalize X * 6 ^ (g.length + r.flatten.length) = V at *
    generalize fee + rC us g = U at *
    generalize ex lf F_spec_RoundAverage_W0 = E at *
    generalize L.map ni = L' at *
    simp [F_spec_RoundAverage_L0, ll, k1, k1', I, w1, w2, w3, -Int.natCast_add]
def rdO (us : List T) (L : List (List Int)) (fee : Int) : Bool := tsOk us && gokB us.length L && decide (0 ≤ fee ∧ fee ≤ 20)
def rdV (us : List T) (L : List (List Int)) (fee : Int) : Int := if rdO us L fee then rD us fee (L.map fun r => r.map Int.toNat) else -1
set_option maxHeartbeats 1000000 in
theorem c_spec_RoundAverage (us : List T) (L : List (List Int)) (fee : Int) (ha : (us.length : Int) < 1099511627776) (hb : (L.length : Int) < 1099511627776) (hf : (L.flatten.length : Int) < 1099511627776) :
    call lf n_spec_RoundAverage [.sl 0 (us.map e2), .sl 0 (L.map eR), .i fee] = some (.i (rdV us L fee), []) := by
  rw [call_k lf n_spec_RoundAverage _ (F := F_spec_RoundAverage) rfl rfl]
  have C1 := c_spec_TestsOk us ha
  have C2 := c_spec_GroupsOk us.length L hb hf
  have C3 := c_spec_l1In fee 0 20
  unfold rdV rdO
  cases h1 : tsOk us with
  | false => rw [h1] at C1; simp [F_spec_RoundAverage, C1]
  | true =>
    rw [h1] at C1
    cases h2 : gokB us.length L with
    | false => rw [h2] at C2; simp [F_spec_RoundAverage, C1, C2]
    | true =>
      rw [h2] at C2
      cases h3 : decide (0 ≤ fee ∧ fee ≤ 20) with
      | false => rw [h3] at C3; simp [F_spec_RoundAverage, C1, C2, C3]
      | true =>
        rw [h3] at C3
        have h4 := of_decide_eq_true h3
        have h' := tsOk_iff.1 h1
        obtain ⟨N, rfl, G⟩ := gok_of (m := us.length) (by omega) h2
        have gl := gok_len G
        have cn : N.length ≤ 5 := by have := flat_ge9 G.ne; omega
        have P := c_spec_l1Power (n := us.length) (by omega)
        have pk := p6 (n := us.length) (by omega)
        obtain ⟨w', J⟩ := ra_outer (us := us) (L := N) (fee := fee) h'.2 (by omega) ⟨h4.1, by omega⟩ G.lt cn (by omega) N 0 0 1 rfl (by simp) (by omega) (by rw [gl]; omega) (by omega)
        have nt : ((N.map ni).map fun r => r.map Int.toNat) = N := natL_ni N
        rw [nt, Bool.true_and, Bool.true_and, if_pos rfl]
        rw [gl, Int.one_mul, Int.one_mul, Int.zero_add] at J
        have ll : (N.map ni).length = N.length := by simp
        unfold stRA at J
        simp only [Int.natCast_zero] at J
        generalize rD us fee N = Z at *
        generalize (6 : Int) ^ us.length = Q at *
        generalize N.map ni = L at *
        simp [F_spec_RoundAverage, C1, C2, C3, P, J, ll]
end
section
/-- one more of the first ones -/
def stpF (so n a k : Nat) : Nat := if pc a < n ∧ so.testBit k = true then a ||| 2 ^ k else a
def fF (so n : Nat) (l : List Nat) : Nat := l.foldl (stpF so n) 0
/-- what is left, in ascending order -/
def Sl (m so : Nat) : List Nat := (List.range m).filter fun k => so.testBit k
theorem Sl_nd (m so : Nat) : (Sl m so).Nodup := List.nodup_range.filter _
theorem Sl_mem {m so k : Nat} : k ∈ Sl m so ↔ k < m ∧ so.testBit k = true := by unfold Sl; rw [List.mem_filter, List.mem_range]
/-- the next one -/
def nx (us : List T) (so k : Nat) : Nat := (cs us).ch (Sl us.length so) k
end
section
attribute [-simp] DV.cells sliceD
attribute [local simp] cells_st cells_sl cells_i cells_y cells_b cells_s cells_w
/-- how many bits are ones, one by one -/
def hb : Nat → Nat → Nat
  | 0, _ => 0
  | f + 1, n => n % 2 + hb f (n / 2)
def ctOk (us : List T) (k : Int) : Bool := tsOk us && decide (1 ≤ k ∧ k ≤ us.length)
end
section
attribute [-simp] DV.cells
attribute [local simp] sliceD cells_st cells_sl cells_i cells_y cells_b cells_s cells_w
theorem Sl_succ (j r : Nat) : Sl (j + 1) r = Sl j r ++ if r.testBit j then [j] else [] := by
  unfold Sl
  rw [List.range_succ, List.filter_append]
  congr 1
  cases h : r.testBit j <;> simp [h]
end
section
attribute [-simp] DV.cells
attribute [local simp] sliceD cells_st cells_sl cells_i cells_y cells_b cells_s cells_w
attribute [local simp] lend_eR al_eR
theorem c_impl_feeOk (fee : Int) : call lf n_impl_feeOk [.i fee] = some (.b (decide (0 ≤ fee ∧ fee ≤ 20)), []) := by
  rw [call_k lf n_impl_feeOk _ (F := F_impl_feeOk) rfl rfl]
  simp [F_impl_feeOk, c_impl_isWithin]
def stAv (us : List T) (r : Nat) (n : Nat) (beh : Int) (cost yes : Int) (k : Nat) : LS :=
  ⟨[(1, .i r), (3, .i n), (4, .i beh), (11, .i cost), (12, .i yes), (16, .sl 0 (us.map e2)), (17, .i us.length), (18, .i k)], []⟩
set_option maxHeartbeats 4000000 in
theorem av_loop {us : List T} (h : us.all tOk = true) (hm : us.length ≤ 5) {r n : Nat} {fee beh : Int} (hf : 0 ≤ fee ∧ fee ≤ 22) :
    ex lf F_impl_averageOfRound_W0 (stAv us r n beh fee 1 0) = some (.exit 0, stAv us r n beh (fee + rC us (Sl us.length r)) (rP us (Sl us.length r)) us.length) := by
  have z : Sl 0 r = [] := rfl
  have e0 : stAv us r n beh fee 1 0 = stAv us r n beh (fee + rC us (Sl 0 r)) (rP us (Sl 0 r)) 0 := by rw [z]; simp [rC, rP]
  rw [e0]
  refine loop_count (lf := lf) (L := F_impl_averageOfRound_L0) us.length (fun j => stAv us r n beh (fee + rC us (Sl j r)) (rP us (Sl j r)) j) (fun j hj => ?_) ?_ (by simp)
  · have jm : ∀ k ∈ Sl j r, k < us.length := fun k hk => by have := (Sl_mem.1 hk).1; omega
    have rc := rC_bd h jm
    have rp := rP_bd h jm
    have hj' : (j : Int) < us.length := by omega
    have w7 := wr_succ (k := j) (by omega)
    have at2 := atT hj
    have cb := cA_bd h hj
    have pb := pA_bd h hj
    have l5 : (Sl j r).length ≤ j := by
      have := List.length_filter_le r.testBit (List.range j)
      rw [List.length_range] at this
      exact this
    have C := c_impl_hasTest r j (by omega)
    have p6' := (p6 (n := (Sl j r).length) (by omega)).2
    show ex lf F_impl_averageOfRound_L0 (stAv us r n beh (fee + rC us (Sl j r)) (rP us (Sl j r)) j) = some (.normal, stAv us r n beh (fee + rC us (Sl (j + 1) r)) (rP us (Sl (j + 1) r)) (j + 1))
    rw [Sl_succ]
    cases hb : r.testBit j with
    | false =>
      rw [hb] at C
      simp only [Bool.false_eq_true, if_false, List.append_nil]
      unfold stAv
      generalize fee + rC us (Sl j r) = U at *
      generalize rP us (Sl j r) = V at *
      simp [F_impl_averageOfRound_L0, hj, hj', C, at2, w7, -Int.natCast_add]
    | true =>
      rw [hb] at C
      simp only [if_true]
      have ec : rC us (Sl j r ++ [j]) = rC us (Sl j r) + cA us j := by rw [rC_app]; simp [rC]
      have ep : rP us (Sl j r ++ [j]) = rP us (Sl j r) * pA us j := by rw [rP_app]; simp [rP]
      rw [ec, ep, ← Int.add_assoc]
      unfold stAv
      have w3 : wr (fee + rC us (Sl j r) + cA us j) = fee + rC us (Sl j r) + cA us j := wr_id (by omega) (by omega)
      have mb : 0 ≤ rP us (Sl j r) * pA us j ∧ rP us (Sl j r) * pA us j ≤ 7776 * 6 := ⟨Int.mul_nonneg (by omega) (by omega), Int.mul_le_mul (by omega) (by omega) (by omega) (by omega)⟩
      have w4 : wr (rP us (Sl j r) * pA us j) = rP us (Sl j r) * pA us j := wr_id (by omega) (by omega)
      generalize fee + rC us (Sl j r) = U at *
      generalize rP us (Sl j r) = V at *
      generalize cA us j = c at *
      generalize pA us j = p at *
      simp [F_impl_averageOfRound_L0, hj, hj', C, at2, w3, w4, w7, -Int.natCast_add]
  · show ex lf F_impl_averageOfRound_L0 (stAv us r n beh (fee + rC us (Sl us.length r)) (rP us (Sl us.length r)) us.length) = _
    unfold stAv
    generalize fee + rC us (Sl us.length r) = U at *
    generalize rP us (Sl us.length r) = V at *
    simp [F_impl_averageOfRound_L0]
theorem c_impl_averageOfRound {us : List T} (h : us.all tOk = true) (hm : us.length ≤ 5) {r n : Nat} (hn : n ≤ 5) {fee beh : Int} (hf : 0 ≤ fee ∧ fee ≤ 22) (hb : 0 ≤ beh ∧ beh ≤ 10000000) :
    call lf n_impl_averageOfRound [.sl 0 (us.map e2), .i r, .i fee, .i n, .i beh] = some (.i ((fee + rC us (Sl us.length r)) * 6 ^ n + rP us (Sl us.length r) * beh), []) := by
  rw [call_k lf n_impl_averageOfRound _ (F := F_impl_averageOfRound) rfl rfl]
  have L := av_loop (r := r) (n := n) (beh := beh) h hm hf
  have C := c_impl_wholeOf (n := n) hn
  have jm : ∀ k ∈ Sl us.length r, k < us.length := fun k hk => (Sl_mem.1 hk).1
  have rc := rC_bd h jm
  have rp := rP_bd h jm
  have l5 : (Sl us.length r).length ≤ us.length := by
    have := List.length_filter_le r.testBit (List.range us.length)
    rw [List.length_range] at this
    exact this
  have p6' := (p6 (n := (Sl us.length r).length) (by omega)).2
  have q6 := (p6 (n := n) hn).2
  have q0 := p6_pos n
  have m1 : 0 ≤ (fee + rC us (Sl us.length r)) * 6 ^ n ∧ (fee + rC us (Sl us.length r)) * 6 ^ n ≤ 70 * 7776 := ⟨Int.mul_nonneg (by omega) (by omega), Int.mul_le_mul (by omega) q6 (by omega) (by omega)⟩
  have m2 : 0 ≤ rP us (Sl us.length r) * beh ∧ rP us (Sl us.length r) * beh ≤ 7776 * 10000000 := ⟨Int.mul_nonneg (by omega) hb.1, Int.mul_le_mul (by omega) hb.2 hb.1 (by omega)⟩
  unfold stAv at L
  simp only [Int.natCast_zero] at L
  generalize fee + rC us (Sl us.length r) = U at *
  generalize rP us (Sl us.length r) = V at *
  generalize (6 : Int) ^ n = Q at *
  have w1 : wr (U * Q) = U * Q := wr_id (by omega) (by omega)
  have w2 : wr (V * beh) = V * beh := wr_id (by omega) (by omega)
  have w3 : wr (U * Q + V * beh) = U * Q + V * beh := wr_id (by omega) (by omega)
  simp [F_impl_averageOfRound, L, C, w1, w2, w3]
end
section
attribute [-simp] DV.cells
attribute [local simp] sliceD cells_st cells_sl cells_i cells_y cells_b cells_s cells_w
attribute [local simp] lend_eR al_eR
def setN (g : List Nat) : Nat := g.foldl (fun s k => s ||| 2 ^ k) 0
theorem setN_app (g : List Nat) (k : Nat) : setN (g ++ [k]) = setN g ||| 2 ^ k := by unfold setN; rw [List.foldl_append]; rfl
theorem setN_lt {m : Nat} {g : List Nat} (h : ∀ k ∈ g, k < m) : setN g < 2 ^ m := by
  obtain ⟨n, hn⟩ : ∃ n, n = g.length := ⟨_, rfl⟩
  induction n generalizing g with
  | zero =>
    have : g = [] := List.eq_nil_of_length_eq_zero hn.symm
    subst this
    exact Nat.two_pow_pos m
  | succ n ih =>
    obtain ⟨a, k, rfl⟩ : ∃ a k, g = a ++ [k] := ⟨g.dropLast, g.getLast (by intro e; rw [e] at hn; simp at hn), (List.dropLast_concat_getLast _).symm⟩
    rw [setN_app]
    exact Nat.or_lt_two_pow (ih (fun x hx => h x (by simp [hx])) (by simp at hn; exact hn)) (Nat.pow_lt_pow_right (by omega) (h k (by simp)))
theorem setN_bit (g : List Nat) (x : Nat) : (setN g).testBit x = decide (x ∈ g) := by
  obtain ⟨n, hn⟩ : ∃ n, n = g.length := ⟨_, rfl⟩
  induction n generalizing g with
  | zero =>
    have : g = [] := List.eq_nil_of_length_eq_zero hn.symm
    subst this
    simp [setN]
  | succ n ih =>
    obtain ⟨a, k, rfl⟩ : ∃ a k, g = a ++ [k] := ⟨g.dropLast, g.getLast (by intro e; rw [e] at hn; simp at hn), (List.dropLast_concat_getLast _).symm⟩
    rw [setN_app, Nat.testBit_or, ih a (by simp at hn; exact hn), Nat.testBit_two_pow]
    by_cases e : x = k
    · subst e; simp
    · have : k ≠ x := fun q => e q.symm
      simp [e, this]
theorem setN_perm {m : Nat} {g : List Nat} (nd : g.Nodup) (h : ∀ k ∈ g, k < m) : (Sl m (setN g)).Perm g := by
  refine (List.perm_ext_iff_of_nodup (Sl_nd _ _) nd).2 fun k => ?_
  rw [Sl_mem, setN_bit, decide_eq_true_eq]
  exact ⟨fun q => q.2, fun q => ⟨h k q, q⟩⟩
def stSw9 (g : List Nat) (k : Nat) : LS := ⟨[(3, .i (setN (g.take k))), (6, .sl 0 ((ni g).map .i)), (7, .i g.length), (8, .i k)], []⟩
theorem sw9_loop {g : List Nat} (hl : g.length ≤ 5) (h5 : ∀ k ∈ g, k < 5) : ex lf F_impl_setOf_W0 (stSw9 g 0) = some (.exit 0, stSw9 g g.length) := by
  refine loop_count (lf := lf) (L := F_impl_setOf_L0) g.length (fun k => stSw9 g k) (fun k hk => ?_) ?_ (by simp)
  · have hk' : (k : Int) < g.length := by omega
    have w1 := wr_succ (k := k) (by omega)
    have hkr : g[k]? = some g[k] := List.getElem?_eq_getElem hk
    obtain ⟨a1, _⟩ := at_ni hkr
    have nl := ni_len g
    have sl : setN (g.take k) < 2 ^ 5 := setN_lt fun x hx => h5 x (List.mem_of_mem_take hx)
    have ft : setN (g.take (k + 1)) = setN (g.take k) ||| 2 ^ g[k] := by rw [List.take_add_one, hkr]; exact setN_app _ _
    have hg := h5 g[k] (List.getElem_mem _)
    have oi := or_i (so := setN (g.take k)) (a := (g[k] : Int)) (by omega) (by omega) (by omega)
    rw [Int.toNat_natCast, ← ft] at oi
    have n0 : ¬ ((g[k] : Int) < 0) := by omega
    show ex lf F_impl_setOf_L0 (stSw9 g k) = some (.normal, stSw9 g (k + 1))
    unfold stSw9
    generalize setN (g.take (k + 1)) = s2 at *
    generalize setN (g.take k) = s1 at *
    generalize g[k] = x at *
    generalize ni g = g2 at *
    simp [F_impl_setOf_L0, hk, hk', w1, a1, nl, oi, n0, -Int.natCast_add]
  · show ex lf F_impl_setOf_L0 (stSw9 g g.length) = _
    unfold stSw9
    generalize setN (g.take g.length) = s1 at *
    generalize ni g = g2 at *
    simp [F_impl_setOf_L0]
theorem c_impl_setOf {g : List Nat} (hl : g.length ≤ 5) (h5 : ∀ k ∈ g, k < 5) : call lf n_impl_setOf [.sl 0 ((ni g).map .i)] = some (.i (setN g), []) := by
  rw [call_k lf n_impl_setOf _ (F := F_impl_setOf) rfl rfl]
  have L := sw9_loop hl h5
  have nl := ni_len g
  unfold stSw9 at L
  rw [List.take_length] at L
  have z : setN (g.take 0) = 0 := rfl
  rw [z] at L
  simp only [Int.natCast_zero] at L
  generalize setN g = s at *
  generalize ni g = g2 at *
  simp [F_impl_setOf, L, nl]
theorem c_backward (L : List (List Int)) : call lf n_slices_Backward_int_int [.sl 0 (L.map eR)] = some (.fn n_slices_Backward_int_int_1 [.adr (.sl 0 (L.map eR))], []) := by
  rw [call_k lf n_slices_Backward_int_int _ (F := F_slices_Backward_int_int) rfl rfl]
  have e0 : ¬ mkNo n_slices_Backward_int_int_1 0 % 2 = 1 := (mkNo_0 _).1
  have e1 : mkNo n_slices_Backward_int_int_1 0 / 2 = n_slices_Backward_int_int_1 := (mkNo_0 _).2
  simp [F_slices_Backward_int_int, e0, e1]
theorem adopt_eR (L : List (List Int)) : adoptL true (L.map eR) = L.map eR := by
  rw [adoptL_map, List.map_map]
  refine List.map_congr_left fun r _ => ?_
  show DV.sl (adoptP true 0) (adoptL true (r.map .i)) = .sl 0 (r.map .i)
  rw [adopt_i]; rfl
theorem rD_hi {us : List T} (h : us.all tOk = true) {fee : Int} (hf : 0 ≤ fee ∧ fee ≤ 22) : ∀ {N : LN}, LOk us N → N.flatten.length ≤ 5 → rD us fee N ≤ 70 * N.length * 6 ^ N.flatten.length
  | [], _, _ => by simp [rD]
  | g :: r, hN, hl => by
    rw [List.flatten_cons, List.length_append] at hl
    have a := rD_hi h hf (N := r) (fun c hc => hN c (List.mem_cons_of_mem _ hc)) (by omega)
    have n := rD_nn h hf.1 (N := r) (fun c hc => hN c (List.mem_cons_of_mem _ hc))
    have b := rC_bd h (hN g List.mem_cons_self)
    have c := rP_bd h (hN g List.mem_cons_self)
    have p := p6_pos (g.length + r.flatten.length)
    simp only [rD, List.length_cons, List.flatten_cons, List.length_append]
    have m1 : rP us g * rD us fee r ≤ 6 ^ g.length * (70 * r.length * 6 ^ r.flatten.length) := Int.mul_le_mul c.2 a n (Int.le_of_lt (p6_pos _))
    have m2 : (fee + rC us g) * 6 ^ (g.length + r.flatten.length) ≤ 70 * 6 ^ (g.length + r.flatten.length) := Int.mul_le_mul_of_nonneg_right (by omega) (by omega)
    have e : (6 : Int) ^ g.length * (70 * r.length * 6 ^ r.flatten.length) = 70 * r.length * 6 ^ (g.length + r.flatten.length) := by
      rw [Int.pow_add]
      generalize (6 : Int) ^ g.length = x
      generalize (6 : Int) ^ r.flatten.length = y
      grind
    rw [e] at m1
    push_cast
    rw [show (70 : Int) * (r.length + 1) * 6 ^ (g.length + r.flatten.length) = 70 * r.length * 6 ^ (g.length + r.flatten.length) + 70 * 6 ^ (g.length + r.flatten.length) by grind]
    omega
def stBk (us : List T) (fee avg : Int) (op : Nat) (R : List (List Int)) : LS :=
  ⟨[(3, .adr (.sl 0 (us.map e2))), (5, .adr (.i fee)), (7, .oad 3592 1 0 0), (8, .oad 4104 1 0 0), (27, .fn n_slices_Backward_int_int_1 [.adr (.sl 0 (R.map eR))])], [(3592, [.i avg]), (4104, [.i op])]⟩
set_option maxHeartbeats 4000000 in
theorem bk_round {us : List T} (h : us.all tOk = true) (hm : us.length ≤ 5) {fee avg : Int} (hf : 0 ≤ fee ∧ fee ≤ 22) (ha : 0 ≤ avg ∧ avg ≤ 10000000) {op : Nat} (R : List (List Int)) {g : List Nat} (gl : g.length + op ≤ 5) (hg : ∀ k ∈ g, k < us.length) (nd : g.Nodup) (k : Nat) :
    roundL (ex lf F_impl_RoundAverage_R0) 28 29 [3, 5, 7, 8, 10] [⟨some 10, .mv, [.t 29], none⟩] (eR (ni g)) k (stBk us fee avg op R) = some (stBk us fee ((fee + rC us g) * 6 ^ (g.length + op) + rP us g * avg) (g.length + op) R) := by
  have C1 := c_impl_setOf (g := g) (by omega) (fun x hx => by have := hg x hx; omega)
  have P := setN_perm nd hg
  have C2 := c_impl_averageOfRound (us := us) (r := setN g) (n := g.length + op) (fee := fee) (beh := avg) h hm gl hf ha
  rw [rC_perm us P, rP_perm us P] at C2
  have w1 : wr ((op : Int) + (g.length : Int)) = ((g.length + op : Nat) : Int) := by rw [wr_id (by omega) (by omega)]; omega
  have nl := ni_len g
  have e : eR (ni g) = .sl 0 ((ni g).map .i) := rfl
  have X : ex lf F_impl_RoundAverage_R0 ⟨[(3, .adr (.sl 0 (us.map e2))), (5, .adr (.i fee)), (7, .oad 1039 1 0 0), (8, .oad 1551 1 0 0), (10, .sl 0 ((ni g).map .i))], [(1039, [.i avg]), (1551, [.i op])]⟩ =
      some (.normal, ⟨[(3, .adr (.sl 0 (us.map e2))), (5, .adr (.i fee)), (7, .oad 1039 1 0 0), (8, .oad 1551 1 0 0), (10, .sl 0 ((ni g).map .i))], [(1039, [.i ((fee + rC us g) * 6 ^ (g.length + op) + rP us g * avg)]), (1551, [.i ((g.length + op : Nat) : Int)])]⟩) := by
    generalize (fee + rC us g) * 6 ^ (g.length + op) + rP us g * avg = A at *
    generalize g.length + op = o2 at *
    generalize setN g = s at *
    generalize ni g = g2 at *
    simp [F_impl_RoundAverage_R0, C1, C2, w1, nl]
  rw [e]
  unfold stBk roundL
  generalize (fee + rC us g) * 6 ^ (g.length + op) + rP us g * avg = A at *
  generalize g.length + op = o2 at *
  generalize ni g = g2 at *
  simp [runQ, reslot, X]
theorem bk_all {us : List T} (h : us.all tOk = true) (hm : us.length ≤ 5) {fee : Int} (hf : 0 ≤ fee ∧ fee ≤ 22) (R : List (List Int)) : ∀ (B r : LN), LOk us (B.reverse ++ r) → (∀ g ∈ B, g.Nodup) → (B.reverse ++ r).flatten.length ≤ 5 → (∀ g ∈ B.reverse ++ r, g ≠ []) →
    backL (roundL (ex lf F_impl_RoundAverage_R0) 28 29 [3, 5, 7, 8, 10] [⟨some 10, .mv, [.t 29], none⟩]) ((B.map ni).map eR) (stBk us fee (rD us fee r) r.flatten.length R) = some (stBk us fee (rD us fee (B.reverse ++ r)) (B.reverse ++ r).flatten.length R)
  | [], r, _, _, _, _ => rfl
  | g :: B, r, hL, nd, hl, ne => by
    have e : (g :: B).reverse ++ r = B.reverse ++ (g :: r) := by simp
    rw [e] at hL hl ne ⊢
    have hl2 : g.length + r.flatten.length ≤ 5 := by simp at hl ⊢; omega
    have lr : LOk us r := fun c hc => hL c (by simp [hc])
    have up := rD_hi h hf lr (by omega)
    have nn := rD_nn h hf.1 lr
    have rl : r.length ≤ 5 := by
      have : r.length ≤ r.flatten.length := flat_ge9 fun c hc => ne c (by simp [hc])
      omega
    have p := (p6 (n := r.flatten.length) (by omega))
    have ub : rD us fee r ≤ 70 * 5 * 7776 := Int.le_trans up (Int.mul_le_mul (by omega) p.2 (by omega) (by omega))
    have S := bk_round h hm hf (avg := rD us fee r) ⟨nn, by omega⟩ (op := r.flatten.length) R (g := g) hl2 (hL g (by simp)) (nd g List.mem_cons_self) ((B.map ni).map eR).length
    rw [List.map_cons, List.map_cons]
    simp only [backL, S]
    have I := bk_all h hm hf R B (g :: r) hL (fun c hc => nd c (List.mem_cons_of_mem _ hc)) hl ne
    rw [← I]
    simp only [rD, List.flatten_cons, List.length_append]
set_option maxHeartbeats 4000000 in
theorem c_impl_RoundAverage (us : List T) (L : List (List Int)) (fee : Int) (ha : (us.length : Int) < 1099511627776) (hb : (L.length : Int) < 1099511627776) (hf : (L.flatten.length : Int) < 1099511627776) :
    call lf n_impl_RoundAverage [.sl 0 (us.map e2), .sl 0 (L.map eR), .i fee] = some (.i (rdV us L fee), []) := by
  rw [call_k lf n_impl_RoundAverage _ (F := F_impl_RoundAverage) rfl rfl]
  have C1 := c_impl_TestsOk us ha
  have C2 := c_impl_GroupsOk us.length L hb
  have C3 := c_impl_feeOk fee
  unfold rdV rdO
  cases h1 : tsOk us with
  | false => rw [h1] at C1; simp [F_impl_RoundAverage, C1]
  | true =>
    rw [h1] at C1
    cases h2 : gokB us.length L with
    | false => rw [h2] at C2; simp [F_impl_RoundAverage, C1, C2]
    | true =>
      rw [h2] at C2
      cases h3 : decide (0 ≤ fee ∧ fee ≤ 20) with
      | false => rw [h3] at C3; simp [F_impl_RoundAverage, C1, C2, C3]
      | true =>
        rw [h3] at C3
        have h4 := of_decide_eq_true h3
        have h' := tsOk_iff.1 h1
        obtain ⟨N, rfl, G⟩ := gok_of (m := us.length) (by omega) h2
        have gl := gok_len G
        have nt : ((N.map ni).map fun r => r.map Int.toNat) = N := natL_ni N
        rw [nt, Bool.true_and, Bool.true_and, if_pos rfl]
        have J := bk_all h'.2 (by omega) (fee := fee) ⟨h4.1, by omega⟩ (N.map ni) N.reverse [] (by rw [List.reverse_reverse, List.append_nil]; exact G.lt) (fun g hg => by
          obtain ⟨A, B, e⟩ := List.append_of_mem (List.mem_reverse.1 hg)
          have nd := G.nd
          rw [e, List.flatten_append, List.flatten_cons] at nd
          exact (List.nodup_append.1 (List.nodup_append.1 nd).2.1).1) (by rw [List.reverse_reverse, List.append_nil]; omega) (by rw [List.reverse_reverse, List.append_nil]; exact G.ne)
        rw [List.reverse_reverse, List.append_nil] at J
        have rv : (N.reverse.map ni).map eR = ((N.map ni).map eR).reverse := by rw [← List.map_reverse, ← List.map_reverse]
        rw [rv] at J
        have e0 : rD us fee [] = 0 := rfl
        have e1 : ([] : LN).flatten.length = 0 := rfl
        rw [e0, e1] at J
        have Bw := c_backward (N.map ni)
        have on : ((N.map ni).map eR).all DV.oneC = true := by
          rw [List.all_map, List.all_eq_true]; intro x _; rfl
        have K : ex lf F_impl_RoundAverage_B0 (stBk us fee 0 0 (N.map ni)) = some (.normal, stBk us fee (rD us fee N) N.flatten.length (N.map ni)) := by
          unfold F_impl_RoundAverage_B0
          rw [ex_back]
          have hr : backRow bkFs (look (stBk us fee 0 0 (N.map ni)).sl 27) = some ((N.map ni).map eR) := by
            show backRow bkFs (.fn n_slices_Backward_int_int_1 [.adr (.sl 0 ((N.map ni).map eR))]) = _
            unfold backRow
            simp only [on, Bool.and_true]
            rw [if_pos (by decide +kernel)]
          rw [hr]
          simp only
          rw [if_pos (by decide +kernel), J]
          rfl
        unfold stBk at K
        simp only [Int.natCast_zero] at K
        have ll : (N.map ni).length = N.length := by simp
        generalize rD us fee N = Z at *
        generalize N.flatten.length = q at *
        generalize N.map ni = L at *
        simp [F_impl_RoundAverage, C1, C2, C3, Bw, K, ll, adopt_eR]
end
section
attribute [local simp] lend_eR al_eR lend_eN adopt_eN new_eN
set_option maxHeartbeats 4000000 in
theorem law_FnExactRoundAverage (us : List T) (hu : us.length ≤ Go.maxLen) (L : List (List Int)) (hL : L.length ≤ Go.maxLen ∧ ∀ r ∈ L, r.length ≤ Go.maxLen) (a : Int) (_ : -9223372036854775808 ≤ a ∧ a ≤ 9223372036854775807) : call lf n_laws_FnExactRoundAverage [rs2 us, rss L, .i a] = some (.b true, []) := by
  show call lf n_laws_FnExactRoundAverage [.sl 0 (us.map e2), .sl 0 (L.map eR), .i a] = _
  rw [call_k lf n_laws_FnExactRoundAverage _ (F := F_laws_FnExactRoundAverage) rfl rfl]
  have hw : (us.length : Int) ≤ 9223372036854775807 := by unfold Go.maxLen at hu; omega
  have S0 := c_szTestS us 1048576 (by omega) (by omega) hw
  by_cases h : (1048576 : Int) < us.length
  · simp [F_laws_FnExactRoundAverage, S0, h]
  · have n1 : ¬ ((1048576 : Int) - us.length < 0) := by omega
    have A0 := c_toTestS us (by omega)
    have Q0 := c_eqTestS_self us (by omega)
    rcases c_szIntSS L (1048576 - us.length) (by omega) hL.1 hL.2 with S | ⟨z, z0, z1, zL, zF, S⟩
    · simp [F_laws_FnExactRoundAverage, S0, S, h, n1]
    · have n0 : ¬ z < 0 := by omega
      have hr : ∀ r ∈ L, (r.length : Int) ≤ 1048576 := fun r hr => by
        obtain ⟨A, B, rfl⟩ := List.append_of_mem hr
        simp only [List.flatten_append, List.flatten_cons, List.length_append] at zF
        omega
      have A := c_toIntSS L (by omega) hr
      have Q := c_eqIntSS_self L (by omega) hr
      have C1 := c_impl_RoundAverage us L a (by omega) (by omega) (by omega)
      have C2 := c_spec_RoundAverage us L a (by omega) (by omega) (by omega)
      generalize rdV us L a = x at *
      have tk : List.take L.length (L.map eN) = L.map eN := List.take_of_length_le (by simp)
      simp (config := { maxSteps := 2000000 }) [F_laws_FnExactRoundAverage, S0, S, h, n0, n1, A0, Q0, A, Q, C1, C2, tk]
end
end Zz
