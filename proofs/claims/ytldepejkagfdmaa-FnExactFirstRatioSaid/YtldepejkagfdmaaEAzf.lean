/- What the functions answer, as equations: EA. No conditions. -/
import Derived.Test.YtldepejkagfdmaaIrzf
import Derived.Test.YtldepejkagfdmaaE0
import Derived.Test.YtldepejkagfdmaaLgEzf
set_option linter.unusedSectionVars false
set_option linter.unusedVariables false
set_option linter.unusedSimpArgs false
namespace Zz
open Go.Lg Md
set_option linter.unusedSimpArgs false
set_option linter.unusedVariables false
attribute [local simp] tm_mv tm_newnil tm_pick tm_bin tm_eqb tm_eqs tm_un tm_len tm_lens tm_chk tm_fld tm_fldv tm_idxa tm_idx tm_load tm_store tm_slice tm_slices tm_make tm_alloc tm_box tm_build tm_app tm_conv tm_ext tm_call tm_calld tm_mkfn tm_mm tm_idxp tm_eqn tm_callg tm_callm tm_bslice0 tm_bslice1 tm_bslice2 tm_bslice cw_nil cw_cons cd_none cd_some ec_nil ec_cons es_nil es_one es_more nn_nil nn_cons ns_nil ns_cons si_nil si_cons sk_t stod_oad stod_own stod_adr stod_dead ml_nil ml_cons nt_nil nt_cons nc_nil' nc_cons sa_mkfn cv_adr cv_i cv_y cv_b cv_w sa_calld nm_def nh_nil nh_cons nxM_some nxM_none sc_st sd_i sd_y sd_b sd_s sd_w sd_q sc_i sc_y sc_b sc_s sc_w sc_q sa_bslice sa_app nc_own nc_nil sa_call sa_alloc sa_build sa_callm rm_nil rm_one rm_gen bq_mul bq_eql ia_mv ia_newnil ia_pick ia_bin ia_eqb ia_eqs ia_un ia_len ia_lens ia_chk ia_fld ia_fldv ia_idxa ia_idx ia_load ia_store ia_slice ia_slices ia_make ia_alloc ia_box ia_build ia_bslice ia_app ia_b2i ia_i2b ia_i2i ia_same ia_b2s ia_s2b ia_ext ia_mm ia_idxp ia_calld ia_mkfn ia_i2r ia_r2s ia_call pt_nil pt_cons mi_nil mi_cons md_bslice md_mv md_newnil md_pick md_bin md_eqb md_un md_len md_lens md_fld md_fldv md_idxa md_idx md_load md_store md_slice md_slices md_make md_alloc md_box md_build md_app md_conv md_ext md_call md_calld md_callg md_mkfn md_mm md_idxp md_eqn md_eqs md_chk tg_bslice tg_mv tg_newnil tg_pick tg_bin tg_eqb tg_un tg_len tg_lens tg_fld tg_fldv tg_idxa tg_idx tg_load tg_store tg_slice tg_slices tg_make tg_alloc tg_box tg_build tg_app tg_conv tg_ext tg_call tg_calld tg_callg tg_mkfn tg_mm tg_idxp tg_eqn tg_eqs tg_chk rp_eq ro_eq ifP_t ifP_f np_def ng1_nil ng2_nil ng_gate ng_gen tgA_t tgA_0 tgA_1 tgA_2 aC_nil aC_c aC_t nxP_some nxP_none rq_nil rq_gen rq_gate nxR_some nxR_none ru_nil ru_gen ru_gate pl_none pl_some gt_nil gt_t gt_c di_some di_none an_nil an_cons nxG_some nxG_none rg_nil rg_gen rg_gate oldO_some oa_nil oa_i oa_y oa_b oa_s oa_st oa_sl oa_own oa_oad oa_nl al_nil al_cons al_i al_y al_b al_s al_st al_sl nxF_some nxF_none rf_nil rf_gen rf_gate hk_newnil hk_make hk_alloc hk_box hk_build hk_bslice hk_call hk_store hk_app hk_appn em_cel mm_cel ok_cel ov_cel so_cel il_cel oi_cel oj_cel ol_cel nm_cel hk_appc ef_bslice5 ef_app_cel ks_shut shu_own shc_none shc_cel cl_nil cl_cons ai_nil ai_cons il_i il_y il_b il_s il_st il_sl il_own il_adr il_oad il_ref il_fr il_tup il_nil il_np il_und il_dead ol_adr ol_b ol_dead ol_e ol_fn ol_fr ol_i ol_nil ol_np ol_oad ol_own ol_q ol_r ol_ref ol_s ol_sl ol_st ol_tup ol_und ol_w ol_y oj_e oj_i oj_y oj_b oj_s oj_st oj_sl oj_own oj_adr oj_oad oj_ref oj_fr oj_tup oj_nil oj_np oj_und oj_dead oj_w oj_q oj_r oj_fn oi_e oi_i oi_y oi_b oi_s oi_st oi_sl oi_own oi_adr oi_oad oi_ref oi_fr oi_tup oi_nil oi_np oi_und oi_dead as_nil as_cons ao_nil ao_cons av_i av_y av_b av_s av_st av_sl av_own av_adr av_oad av_ref av_fr av_tup av_nil av_np av_und av_dead pro_cons ghK_some ks_promote ks_freeze frz_own ks_rename ren_own dropO adoptP newP wholeP cutP allOldL ex_skip ex_ret ex_exit ks_region ks_seq ks_cond ks_block seqK_n seqK_e seqK_r regK_some condK_t condK_f blkK_n blkK_r blkK_e endK_n endK_r rr_false rr_true rd_free mo_nil mo_cons drK_some drK_none nxW_some nxW_none rw_nil rw_gen rw_gate ak_newnil ak_make ak_alloc ak_box ak_build ak_bslice ak_call ak_store ak_app iw_mm iw_eqn iw_idxp ef_callg cgK_some gv_e gv_own gv_i gv_sl gv_st gv_b gv_nil gvK_some gvO_some iw_callg ia_callg ak_callg hk_callg is_mv is_newnil is_pick is_bin is_eqb is_eqs is_un is_len is_lens is_chk is_fld is_fldv is_idxa is_idx is_load is_slice is_slices is_make is_alloc is_box is_build is_bslice is_app is_conv is_ext is_call is_calld is_callg is_mkfn is_mm is_idxp is_eqn is_store rt_nil rt_gen rt_gate nxT_some nxT_none ef_eqn_nil ef_eqn_sl ef_eqn_own ia_eqn ef_mmx ef_mmn ef_idxp nxD_some nxD_none ov_i ov_y ov_b ov_s ov_st ov_sl ov_own ov_oad ov_adr ov_nil ov_np ov_und ov_dead ov_tup oldN_some oldN_nil oldN_none so_none so_tup DV.noM so_i so_y so_b so_s so_st so_sl so_adr so_nil so_np so_und so_dead anyM_nil anyM_t anyM_c so_own so_oad rd_nil rd_gen rd_mv rd_gate iw_mv iw_newnil iw_pick iw_bin iw_eqb iw_eqs iw_un iw_len iw_lens iw_chk iw_fld iw_fldv iw_idxa iw_idx iw_load iw_store iw_slice iw_slices iw_make iw_alloc iw_box iw_build iw_bslice iw_app iw_b2i iw_i2b iw_i2i iw_same iw_b2s iw_s2b iw_ext iw_call nm_i nm_y nm_b nm_s nm_st nm_sl nm_own nm_oad nm_adr nm_nil nm_np nm_und nm_dead nm_tup rl_nil rl_gate rl_mv rl_gen opv_t opv_c nx_some nx_none gate_tt gate_tf gate_ft gate_ff gate_u fr_ap em_nil em_i em_y em_b em_s em_st em_sl em_own em_adr em_oad em_ref em_nl em_np em_und em_dead em_tup0 em_tup_i em_tup_b em_tup_s em_tup_sl em_tup_st em_tup_np em_tup_own em_tup_oad mm_i mm_y mm_b mm_s mm_st mm_sl mm_own mm_oad mm_adr mm_nil mm_np mm_und mm_dead ef_mv ef_newnil ef_pickt ef_pickf ef_bin ef_eqb ef_eqs ef_un ef_lens ef_len_sl ef_len_own ef_len_nil ef_chk_adr ef_chk_oad ef_fld_adr ef_fld_oad ef_fldv idxR_some ef_idxa_sl ef_idxa_own ef_idx ef_load_adr_st ef_load_adr_i ef_load_adr_y ef_load_adr_b ef_load_adr_s ef_load_adr_sl atN_nil atN_zero atN_succ ef_load_oad ef_store ef_slice ef_slices ef_make ef_alloc ef_box ef_build ef_bslice ef_app_own ef_app_nil ef_b2i ef_i2b ef_i2i ef_same ef_ext ret1 ret2_some calL_some ef_call retC_i retC_y retC_b retC_s retC_st retC_sl retC_np retC_fr retC_ref retC_tup rk_nil rk_i rk_y rk_b rk_s rk_st rk_sl rk_own rk_oad rk_nl ok_nil ok_i ok_y ok_b ok_s ok_st ok_sl ok_own ok_oad ok_nl lo_nil lo_i lo_y lo_b lo_s lo_st lo_sl lo_own lo_oad lo_nl pr_nil pr_i pr_y pr_b pr_s pr_st pr_sl pr_own pr_nl pr_oad nr_i nr_y nr_b nr_s nr_st nr_sl nr_fr nr_np nr_tup ng_i ng_b ng_s ng_fr ng_nil resV effP_eff binD bi_add bi_sub bi_mul bi_quo bi_rem bi_eql bi_neq bi_lss bi_leq bi_gtr bi_geq bi_shl bi_shr bi_and bi_or bi_xor bi_andNot binY binS unD look put putD LS.get LS.drop killE sweep lookO putO dropO enter leave giveBackL giveBack outs lendArgs lendArg newOuts takeIn takeInL lendL DV.lend adoptL DV.adopt elems apartKs part DV.cells unpart settle settleL over mkId szId fillP fillE tk_e2 tk_i tk_y lt_e2 lt_i lt_y lend_rep al_e2 al_is al_ys al_rep al_app lend_app adopt_app new_app lend_e2 lend_i lend_y adopt_e2 adopt_i adopt_y new_e2 new_i allNewL DV.allNew bounds sliceD sliceS em_w em_q em_r em_fn em_tup_w em_tup_q em_tup_r mm_w mm_q mm_r mm_fn ef_load_adr_w ef_load_adr_q ef_load_adr_r retC_w retC_q retC_r rk_w rk_q rk_r rk_fn ok_w ok_q ok_r ok_fn lo_w lo_q lo_r lo_fn pr_w pr_q pr_r pr_fn nr_w nr_q nr_r ng_w ng_q ng_r oa_w oa_q oa_r oa_fn al_w al_q al_r al_fn ov_w ov_q ov_r ov_fn so_w so_q so_r so_fn il_w il_q il_r il_fn oi_w oi_q oi_r oi_fn av_w av_q av_r av_fn nm_w nm_q nm_r nm_fn ef_i2r ef_r2s ef_mkfn ef_mkbd ef_idxp_adr ef_idxp_q ef_calld_nil ef_calld_adr ef_calld_bd DV.capB capsOk DV.cell List.all_cons List.all_nil rk_own_t lo_own_t lk_f lk_t pr_own_t mutB ak_calld hk_calld iw_calld iw_mkfn iw_i2r iw_r2s bw_and bw_or bw_xor bw_andNot bw_eql bw_neq sw_shl sw_shr sq_shl gEnv_nil rk_adr ok_adr lo_adr pr_adr oa_adr capL capArg DV.cap ak_mkfn hk_mkfn hk_mkbd ef_callm gf_ap ga_nil ga_cons tgv_own gk_e gk_giv gk_i gk_y gk_b gk_s gk_w gk_q gk_r gk_fn gk_st gk_sl gk_own gk_oad gk_adr gk_nl gk_np rk_giv ok_giv lo_giv pr_giv oa_giv iw_callm hk_callm ak_callm is_callm ia_callm tg_callm md_callm ef_i2q ef_q2i ef_q2q iw_i2q iw_q2i iw_q2q ia_i2q ia_q2i ia_q2q bq_and bq_add bq_shr sq_shr tgv_nil gk_ref rk_ref ok_ref lo_ref pr_ref oa_ref retC_fn nr_fn ef_load_adr_fn ks_close cls_oad
attribute [local congr] nxM_congr ifP_congr nxP_congr nxR_congr nxT_congr nxG_congr nxF_congr ghK_congr gate_congr nx_congr nxD_congr runL_congr runD_congr eff_congr calL_congr ret2_congr seqK_congr regK_congr condK_congr endK_congr drK_congr nxW_congr
attribute [local simp ↓] nxM_some rm_nil rm_one rm_gen nxT_some rt_nil rt_gen rt_gate nxP_some rq_nil rq_gen rq_gate nxR_some ru_nil ru_gen ru_gate nxG_some rg_nil rg_gen rg_gate nxF_some rf_nil rf_gen rf_gate ks_promote ks_freeze frz_own ks_rename ghK_some gate_tt gate_tf gate_ft gate_ff gate_u nx_some nxD_some rl_nil rl_mv rl_gen rl_gate rd_nil rd_mv rd_gen rd_gate rd_free rr_false rr_true drK_some drK_none nxW_some rw_nil rw_gen rw_gate ks_region ks_seq ks_cond ks_block seqK_n seqK_e seqK_r regK_some condK_t condK_f blkK_n blkK_r endK_n endK_r calL_some ret2_some opv_t opv_c
section
theorem c_impl_isWithin (a b c : Int) : call lf n_impl_isWithin [.i a, .i b, .i c] = some (.b (decide (b ≤ a ∧ a ≤ c)), []) := by
  rw [call_k lf n_impl_isWithin _ (F := F_impl_isWithin) rfl rfl]
  by_cases h : b ≤ a <;> simp [F_impl_isWithin, h]
theorem c_spec_l1In (a b c : Int) : call lf n_spec_l1In [.i a, .i b, .i c] = some (.b (decide (b ≤ a ∧ a ≤ c)), []) := by
  rw [call_k lf n_spec_l1In _ (F := F_spec_l1In) rfl rfl]
  by_cases h : b ≤ a <;> simp [F_spec_l1In, h]
theorem c_impl_manyOk (a : Int) : call lf n_impl_manyOk [.i a] = some (.b (nOk a), []) := by
  rw [call_k lf n_impl_manyOk _ (F := F_impl_manyOk) rfl rfl]
  simp [F_impl_manyOk, c_impl_isWithin, nOk]

theorem l_impl_TestsOk (n : Int) (hb : n < 1099511627776) (es : List DV) (rest : List T) : ∀ k : Int, 0 ≤ k → k + (rest.map e2).length = n → es.drop k.toNat = rest.map e2 →
    ex lf F_impl_TestsOk_W0 ⟨[(9, .sl 0 es), (10, .i n), (11, .i k)], []⟩ =
    if rest.all tOk then some (.exit 0, ⟨[(9, .sl 0 es), (10, .i n), (11, .i n)], []⟩) else some (.ret, ⟨[(2, .b false)], []⟩) := by
  induction rest with
  | nil =>
    intro k h0 hn hd
    rw [w_impl_TestsOk_0]
    have hk : k = n := by simpa using hn
    simp [F_impl_TestsOk_L0, hk]
  | cons t rest ih =>
    intro k h0 hn hd
    obtain ⟨q1, q2, q3, q4, q5, q6⟩ := stp h0 hn hb hd
    have ih := ih (k + 1) q4 q5 q6
    simp only [e2] at q2
    rw [w_impl_TestsOk_0]
    have xt := tOk_def t
    cases x1 : decide (1 ≤ t.1 ∧ t.1 ≤ 9) <;> cases x2 : decide (1 ≤ t.2 ∧ t.2 ≤ 5) <;> rw [x1, x2] at xt <;> simp [F_impl_TestsOk_L0, q1, q2, q3, c_impl_isWithin, ih, xt, x1, x2, -List.all_eq_true]
theorem c_impl_TestsOk (ts : List T) (hb : (ts.length : Int) < 1099511627776) : call lf n_impl_TestsOk [.sl 0 (ts.map e2)] = some (.b (tsOk ts), []) := by
  rw [call_k lf n_impl_TestsOk _ (F := F_impl_TestsOk) rfl rfl]
  have L := l_impl_TestsOk ts.length hb (ts.map e2) ts 0 (by omega) (by simp) (by simp)
  cases h1 : nOk ts.length <;> cases h2 : ts.all tOk <;> simp [F_impl_TestsOk, c_impl_manyOk, L, h1, h2, tsOk]

theorem l_spec_TestsOk (n : Int) (hb : n < 1099511627776) (es : List DV) (hE : (es.length : Int) = n) (rest : List T) : ∀ k : Int, 0 ≤ k → k + (rest.map e2).length = n → es.drop k.toNat = rest.map e2 →
    ex lf F_spec_TestsOk_W0 ⟨[(0, .sl 0 es), (3, .i k)], []⟩ =
    if rest.all tOk then some (.exit 0, ⟨[(0, .sl 0 es), (3, .i n)], []⟩) else some (.ret, ⟨[(2, .b false)], []⟩) := by
  induction rest with
  | nil =>
    intro k h0 hn hd
    rw [w_spec_TestsOk_0]
    have hk : k = n := by simpa using hn
    simp [F_spec_TestsOk_L0, hk, hE]
  | cons t rest ih =>
    intro k h0 hn hd
    obtain ⟨q1, q2, q3, q4, q5, q6⟩ := stp h0 hn hb hd
    have ih := ih (k + 1) q4 q5 q6
    simp only [e2] at q2
    rw [w_spec_TestsOk_0]
    have xt := tOk_def t
    cases x1 : decide (1 ≤ t.1 ∧ t.1 ≤ 9) <;> cases x2 : decide (1 ≤ t.2 ∧ t.2 ≤ 5) <;> rw [x1, x2] at xt <;> simp [F_spec_TestsOk_L0, q1, q2, q3, hE, c_spec_l1In, ih, xt, x1, x2, -List.all_eq_true]
theorem c_spec_TestsOk (ts : List T) (hb : (ts.length : Int) < 1099511627776) : call lf n_spec_TestsOk [.sl 0 (ts.map e2)] = some (.b (tsOk ts), []) := by
  rw [call_k lf n_spec_TestsOk _ (F := F_spec_TestsOk) rfl rfl]
  have L := l_spec_TestsOk ts.length hb (ts.map e2) (by simp) ts 0 (by omega) (by simp) (by simp)
  cases h2 : ts.all tOk <;> simp [F_spec_TestsOk, c_spec_l1In, L, h2, tsOk, nOk]

theorem nOk_iff {a : Int} : nOk a = true ↔ 1 ≤ a ∧ a ≤ 5 := by simp [nOk]
theorem tsOk_iff {ts : List T} : tsOk ts = true ↔ (1 ≤ (ts.length : Int) ∧ (ts.length : Int) ≤ 5) ∧ ts.all tOk = true := by
  rw [tsOk, Bool.and_eq_true, nOk_iff]
end
section
theorem p2 {ts : List T} (h : tsOk ts = true) : 1 ≤ (2 : Nat) ^ ts.length ∧ (2 : Nat) ^ ts.length ≤ 32 ∧ ((2 ^ ts.length : Nat) : Int) = 2 ^ ts.length := by
  have h' := tsOk_iff.1 h
  have a : (2 : Nat) ^ ts.length ≤ 2 ^ 5 := Nat.pow_le_pow_right (by omega) (by omega)
  exact ⟨Nat.pow_pos (by omega), by omega, by simp⟩
theorem at_e2 {ts : List T} {i : Nat} (hi : i < ts.length) : ∃ t, ts[i]? = some t ∧ t ∈ ts ∧ atI (ts.map e2) i = some (.st [.i t.1, .i t.2]) ∧ ts.take (i + 1) = ts.take i ++ [t] := by
  refine ⟨ts[i], List.getElem?_eq_getElem hi, List.getElem_mem hi, ?_, List.take_succ_eq_append_getElem hi⟩
  simp [atI, hi, e2]
def ot (ts : List T) (i : Nat) : List DV := ((ts.take i).map other).map e2
def cn (ts : List T) (i : Nat) : List DV := ot ts i ++ List.replicate (ts.length - i) (.st [.i 0, .i 0])
end
section
theorem c_toTest (t : T) : call lf n_laws_toTest [e2 t] = some (e2 t, []) := by
  rw [call_k lf n_laws_toTest _ (F := F_laws_toTest) rfl rfl]
  simp [F_laws_toTest, e2]
theorem c_szTestS (ts : List T) (n : Int) (h0 : 0 ≤ n) (h1 : n ≤ 1048576) (hb : (ts.length : Int) ≤ 9223372036854775807) : call lf n_laws_szTestS [.sl 0 (ts.map e2), .i n] = some (.i (if n < ts.length then -1 else n - ts.length), []) := by
  rw [call_k lf n_laws_szTestS _ (F := F_laws_szTestS) rfl rfl]
  have w : wr (n - ts.length) = n - ts.length := wr_id (by omega) (by omega)
  by_cases h : n < ts.length
  · have h' : n - ts.length < 0 := by omega
    simp [F_laws_szTestS, w, h, h']
  · have h' : ¬ n - ts.length < 0 := by omega
    simp [F_laws_szTestS, w, h, h']
def cz (ts : List T) (i : Nat) : List DV := (ts.take i).map e2 ++ List.replicate (ts.length - i) (.st [.i 0, .i 0])
theorem cz_len {ts : List T} {i : Nat} (hi : i ≤ ts.length) : (cz ts i).length = ts.length := by simp [cz]; omega
theorem cz_set {ts : List T} {i : Nat} {t : T} (hi : i < ts.length) (h : ts.take (i + 1) = ts.take i ++ [t]) : (cz ts i).set i (.st [.i t.1, .i t.2]) = cz ts (i + 1) := by
  have : ((ts.take i).map e2).length = i := by simp; omega
  unfold cz
  rw [List.set_append_right _ _ (by omega), this, Nat.sub_self, h, show ts.length - i = (ts.length - (i + 1)) + 1 by omega, List.replicate_succ, List.set_cons_zero, List.map_append, List.append_assoc]
  rfl
theorem cz_get {ts : List T} {i : Nat} (hi : i < ts.length) : atN (cz ts i) i = some (.st [.i 0, .i 0]) := by
  show (cz ts i)[i]? = _
  have : ((ts.take i).map e2).length = i := by simp; omega
  unfold cz
  rw [List.getElem?_append_right (by omega), this, Nat.sub_self, List.getElem?_replicate]
  simp; omega
theorem cz_zero (ts : List T) : cz ts 0 = List.replicate ts.length (.st [.i 0, .i 0]) := by simp [cz]
theorem cz_all (ts : List T) : cz ts ts.length = ts.map e2 := by simp [cz]
theorem c_toTestS (ts : List T) (hb : (ts.length : Int) ≤ 1048576) : call lf n_laws_toTestS [.sl 0 (ts.map e2)] = some (.fr 2 (ts.map e2), []) := by
  rw [call_k lf n_laws_toTestS _ (F := F_laws_toTestS) rfl rfl]
  have L : ex lf F_laws_toTestS_W0 ⟨[(0, .sl 0 (ts.map e2)), (3, .own 3600 ts.length 0 ts.length), (4, .i 0)], [(3600, cz ts 0)]⟩ =
      some (.exit 0, ⟨[(0, .sl 0 (ts.map e2)), (3, .own 3600 ts.length 0 ts.length), (4, .i ts.length)], [(3600, cz ts ts.length)]⟩) := by
    refine loop_count ts.length (fun i => ⟨[(0, .sl 0 (ts.map e2)), (3, .own 3600 ts.length 0 ts.length), (4, .i i)], [(3600, cz ts i)]⟩) (fun i hi => ?_) ?_ (by simp)
    · obtain ⟨t, q1, q2, q3, q4⟩ := at_e2 hi
      have w1 : wr ((i : Int) + 1) = (i : Int) + 1 := wr_id (by omega) (by omega)
      have c1 := cz_len (ts := ts) (i := i) (by omega)
      have c2 := cz_get hi
      have c3 := cz_set hi q4
      have C := c_toTest t
      simp only [e2] at C
      simp [F_laws_toTestS_L0, hi, q3, w1, c1, c2, c3, C]
    · simp [F_laws_toTestS_L0]
  have b1 : (ts.length : Int) ≤ bound := by unfold bound; omega
  rw [cz_zero, cz_all] at L
  simp [F_laws_toTestS, b1, L]
theorem c_eqTest (t u : T) : call lf n_laws_eqTest [e2 t, e2 u] = some (.b (t.1 == u.1 && t.2 == u.2), []) := by
  rw [call_k lf n_laws_eqTest _ (F := F_laws_eqTest) rfl rfl]
  by_cases h1 : t.1 = u.1
  · by_cases h2 : t.2 = u.2
    · simp [F_laws_eqTest, e2, h1, h2]
    · have h3 : (t.2 != u.2) = true := bne_iff_ne.2 h2
      have h4 : (t.2 == u.2) = false := beq_eq_false_iff_ne.2 h2
      simp [F_laws_eqTest, e2, h1, h3, h4]
  · have h3 : (t.1 != u.1) = true := bne_iff_ne.2 h1
    have h4 : (t.1 == u.1) = false := beq_eq_false_iff_ne.2 h1
    simp [F_laws_eqTest, e2, h3, h4]
theorem c_eqTestS_self (aS : List T) (ha : (aS.length : Int) ≤ 1048576) : call lf n_laws_eqTestS [.sl 0 (aS.map e2), .sl 0 (aS.map e2)] = some (.b true, []) := by
  rw [call_k lf n_laws_eqTestS _ (F := F_laws_eqTestS) rfl rfl]
  have L : ex lf F_laws_eqTestS_W0 ⟨[(0, .sl 0 (aS.map e2)), (1, .sl 0 (aS.map e2)), (5, .i 0)], []⟩ = some (.exit 0, ⟨[(0, .sl 0 (aS.map e2)), (1, .sl 0 (aS.map e2)), (5, .i aS.length)], []⟩) := by
    refine loop_count aS.length (fun i => ⟨[(0, .sl 0 (aS.map e2)), (1, .sl 0 (aS.map e2)), (5, .i i)], []⟩) (fun i hi => ?_) ?_ (by simp)
    · obtain ⟨t, q1, q2, q3, q4⟩ := at_e2 hi
      have w1 : wr ((i : Int) + 1) = (i : Int) + 1 := wr_id (by omega) (by omega)
      have C := c_eqTest t t
      simp only [e2, beq_self_eq_true, Bool.and_self] at C
      simp [F_laws_eqTestS_L0, hi, q3, w1, C]
    · simp [F_laws_eqTestS_L0]
  simp [F_laws_eqTestS, L]
end
section
def ci (ts : List Int) (i : Nat) : List DV := (ts.take i).map .i ++ List.replicate (ts.length - i) (.i 0)
theorem ci_len {ts : List Int} {i : Nat} (hi : i ≤ ts.length) : (ci ts i).length = ts.length := by simp [ci]; omega
theorem ci_set {ts : List Int} {i : Nat} {t : Int} (hi : i < ts.length) (h : ts.take (i + 1) = ts.take i ++ [t]) : (ci ts i).set i (.i t) = ci ts (i + 1) := by
  have : ((ts.take i).map DV.i).length = i := by simp; omega
  unfold ci
  rw [List.set_append_right _ _ (by omega), this, Nat.sub_self, h, show ts.length - i = (ts.length - (i + 1)) + 1 by omega, List.replicate_succ, List.set_cons_zero, List.map_append, List.append_assoc]
  rfl
theorem ci_get {ts : List Int} {i : Nat} (hi : i < ts.length) : atN (ci ts i) i = some (.i 0) := by
  show (ci ts i)[i]? = _
  have : ((ts.take i).map DV.i).length = i := by simp; omega
  unfold ci
  rw [List.getElem?_append_right (by omega), this, Nat.sub_self, List.getElem?_replicate]
  simp; omega
theorem ci_zero (ts : List Int) : ci ts 0 = List.replicate ts.length (.i 0) := by simp [ci]
theorem ci_all (ts : List Int) : ci ts ts.length = ts.map .i := by simp [ci]
theorem at_i {ks : List Int} {i : Nat} (hi : i < ks.length) : ∃ k, ks[i]? = some k ∧ k ∈ ks ∧ atI (ks.map .i) i = some (.i k) ∧ ks.take (i + 1) = ks.take i ++ [k] := by
  refine ⟨ks[i], List.getElem?_eq_getElem hi, List.getElem_mem hi, ?_, List.take_succ_eq_append_getElem hi⟩
  simp [atI, hi]
theorem c_toIntS (ts : List Int) (hb : (ts.length : Int) ≤ 1048576) : call lf n_laws_toIntS [.sl 0 (ts.map .i)] = some (.fr 1 (ts.map .i), []) := by
  rw [call_k lf n_laws_toIntS _ (F := F_laws_toIntS) rfl rfl]
  have L : ex lf F_laws_toIntS_W0 ⟨[(0, .sl 0 (ts.map .i)), (3, .own 3592 ts.length 0 ts.length), (4, .i 0)], [(3592, ci ts 0)]⟩ =
      some (.exit 0, ⟨[(0, .sl 0 (ts.map .i)), (3, .own 3592 ts.length 0 ts.length), (4, .i ts.length)], [(3592, ci ts ts.length)]⟩) := by
    refine loop_count ts.length (fun i => ⟨[(0, .sl 0 (ts.map .i)), (3, .own 3592 ts.length 0 ts.length), (4, .i i)], [(3592, ci ts i)]⟩) (fun i hi => ?_) ?_ (by simp)
    · obtain ⟨t, q1, q2, q3, q4⟩ := at_i hi
      have w1 : wr ((i : Int) + 1) = (i : Int) + 1 := wr_id (by omega) (by omega)
      have c1 := ci_len (ts := ts) (i := i) (by omega)
      have c2 := ci_get hi
      have c3 := ci_set hi q4
      simp [F_laws_toIntS_L0, hi, q3, w1, c1, c2, c3]
    · simp [F_laws_toIntS_L0]
  have b1 : (ts.length : Int) ≤ bound := by unfold bound; omega
  rw [ci_zero, ci_all] at L
  simp [F_laws_toIntS, b1, L]
theorem c_eqIntS_self (aS : List Int) (ha : (aS.length : Int) ≤ 1048576) : call lf n_laws_eqIntS [.sl 0 (aS.map .i), .sl 0 (aS.map .i)] = some (.b true, []) := by
  rw [call_k lf n_laws_eqIntS _ (F := F_laws_eqIntS) rfl rfl]
  have L : ex lf F_laws_eqIntS_W0 ⟨[(0, .sl 0 (aS.map .i)), (1, .sl 0 (aS.map .i)), (5, .i 0)], []⟩ = some (.exit 0, ⟨[(0, .sl 0 (aS.map .i)), (1, .sl 0 (aS.map .i)), (5, .i aS.length)], []⟩) := by
    refine loop_count aS.length (fun i => ⟨[(0, .sl 0 (aS.map .i)), (1, .sl 0 (aS.map .i)), (5, .i i)], []⟩) (fun i hi => ?_) ?_ (by simp)
    · obtain ⟨t, q1, q2, q3, q4⟩ := at_i hi
      have w1 : wr ((i : Int) + 1) = (i : Int) + 1 := wr_id (by omega) (by omega)
      simp [F_laws_eqIntS_L0, hi, q3, w1]
    · simp [F_laws_eqIntS_L0]
  simp [F_laws_eqIntS, L]
end
section
/-- a mark read with p parts before it -/
def mkS (m p : Int) (t : T) : Option Int :=
  if t.1 = 0 then (if 0 ≤ t.2 ∧ t.2 < m then some (p + 1) else none)
  else if t.1 = 1 then (if t.2 = 0 ∧ 1 ≤ p then some p else none)
  else if t.1 = 2 ∨ t.1 = 3 then (if t.2 = 0 ∧ 2 ≤ p then some (p - 1) else none)
  else none
def runM (m : Int) : Int → List T → Option Int
  | p, [] => some p
  | p, t :: r => match mkS m p t with
    | some q => runM m q r
    | none => none
end
section
/-- how many parts a mark takes -/
def taken (k : Int) : Nat := if k = 0 then 0 else if k = 1 then 1 else 2
def stepG {P : Type} (mk : T → List P → P) (st : List P) (t : T) : List P := st.take (st.length - taken t.1) ++ [mk t (st.drop (st.length - taken t.1))]
def yesW (a : Nat) : BitVec 32 := match a with
  | 0 => 2863311530#32
  | 1 => 3435973836#32
  | 2 => 4042322160#32
  | 3 => 4278255360#32
  | _ => 4294901760#32
def mkW (t : T) (ps : List (BitVec 32)) : BitVec 32 :=
  if t.1 = 0 then yesW t.2.toNat else if t.1 = 1 then ~~~(ps.getD 0 0) else if t.1 = 2 then ps.getD 0 0 &&& ps.getD 1 0 else ps.getD 0 0 ||| ps.getD 1 0
def tsW (ts : List T) : BitVec 32 := (ts.foldl (stepG mkW) []).headD 0
/-- the value of a term in a state -/
def tv (ts : List T) (s : Nat) : Bool := (tsW ts).getLsbD s
end
section
def hs (bs : List Nat) (p : Int) : Int := (bs.getD (p.tmod bs.length).toNat 0 : Nat) * 131 + (bs.getD ((p * 7 + 3).tmod bs.length).toNat 0 : Nat) * 1117 + p * 29 + p.tdiv bs.length * 53
def pk (bs : List Nat) (p n : Int) : Int := if bs.length = 0 then 0 else if p < bs.length then ((bs.getD p.toNat 0 : Nat) : Int).tmod n else (xorI (hs bs p) ((hs bs p).tdiv 64)).tmod n
theorem byte_lt {bs : List Nat} (hb : ∀ y ∈ bs, y < 256) (i : Nat) : bs.getD i 0 < 256 := by
  by_cases h : i < bs.length
  · have : bs.getD i 0 = bs[i] := by simp [List.getD, h]
    rw [this]
    exact hb _ (List.getElem_mem h)
  · have : bs.getD i 0 = 0 := by simp [List.getD, List.getElem?_eq_none (by omega : bs.length ≤ i)]
    omega
end
section
theorem cells_st (cs : List DV) : (DV.st cs).cells = cs := rfl
theorem cells_sl (p : Nat) (es : List DV) : (DV.sl p es).cells = [DV.sl p es] := rfl
theorem cells_i (n : Int) : (DV.i n).cells = [DV.i n] := rfl
theorem cells_y (n : Nat) : (DV.y n).cells = [DV.y n] := rfl
theorem cells_b (n : Bool) : (DV.b n).cells = [DV.b n] := rfl
theorem cells_s (n : List UInt8) : (DV.s n).cells = [DV.s n] := rfl
attribute [-simp] DV.cells
attribute [local simp] cells_st cells_sl cells_i cells_y cells_b cells_s
def row (t : List T) : DV := .sl 1 (t.map e2)
theorem flat_set (m : T) : ∀ {ps : List (List T)} {A : Nat} {t : List T}, ps[A]? = some t → (ps.set A (t ++ [m])).flatten.length = ps.flatten.length + 1
  | [], _, _, h => by simp at h
  | x :: ps, 0, t, h => by simp at h; subst h; simp; omega
  | x :: ps, A + 1, t, h => by
    simp only [List.getElem?_cons_succ] at h
    have := flat_set m h
    simp at this ⊢
    omega
theorem flat_len : ∀ {ps : List (List T)} {A : Nat} {t : List T}, ps[A]? = some t → t.length ≤ ps.flatten.length
  | [], _, _, h => by simp at h
  | x :: ps, 0, t, h => by simp at h; subst h; simp
  | x :: ps, A + 1, t, h => by
    simp only [List.getElem?_cons_succ] at h
    have := flat_len h
    simp only [List.flatten_cons, List.length_append]; omega
end
section
attribute [-simp] DV.cells
attribute [local simp] cells_st cells_sl cells_i cells_y cells_b cells_s
theorem cells_w (x : BitVec 32) : (DV.w x).cells = [DV.w x] := rfl
attribute [local simp] cells_w
end
section
attribute [-simp] DV.cells
attribute [local simp] cells_st cells_sl cells_i cells_y cells_b cells_s cells_w
attribute [-simp] sliceD
def bI (b : Bool) : Int := if b then 1 else 0
end
section
attribute [-simp] DV.cells sliceD
attribute [local simp] cells_st cells_sl cells_i cells_y cells_b cells_s cells_w
theorem bit_bI {a s : Nat} (hs : s ≤ 60) : (shrI (a : Int) (s : Int)).tmod 2 = bI (a.testBit s) := by
  rw [shr1 (by omega) (by omega), tmod2 (Int.ediv_nonneg (by omega) (Int.le_of_lt (Int.pow_pos (by omega))))]
  unfold bI
  rw [Nat.testBit_eq_decide_div_mod_eq, Int.toNat_natCast]
  have : (a : Int) / 2 ^ s % 2 = ((a / 2 ^ s % 2 : Nat) : Int) := by simp
  rw [this]
  by_cases h : a / 2 ^ s % 2 = 1
  · simp [h]
  · have : a / 2 ^ s % 2 = 0 := by omega
    simp [this]
theorem pow5 {m : Int} (h1 : 1 ≤ m) (h5 : m ≤ 5) : 2 ≤ 2 ^ m.toNat ∧ 2 ^ m.toNat ≤ 32 ∧ ((2 ^ m.toNat : Nat) : Int) = 2 ^ m.toNat := by
  have c : m = 1 ∨ m = 2 ∨ m = 3 ∨ m = 4 ∨ m = 5 := by omega
  rcases c with rfl | rfl | rfl | rfl | rfl <;> decide
end
section
attribute [-simp] DV.cells sliceD
attribute [local simp] cells_st cells_sl cells_i cells_y cells_b cells_s cells_w
/-- 1 if f holds wherever g does below N, 0 if nowhere, else -1 -/
def fo (f g : Nat → Bool) (N : Nat) : Int := if allTo (fun s => !g s || f s) N then 1 else if allTo (fun s => !g s || !f s) N then 0 else -1
/-- What the states say that agree. -/
def agB (ks : List Int) (s : Nat) : Bool := ag ks (s : Int)
end
section
attribute [-simp] DV.cells sliceD
attribute [local simp] cells_st cells_sl cells_i cells_y cells_b cells_s cells_w
/-- what is known of a term by what is known of its tests -/
def foT (m : Int) (ts : List T) (ks : List Int) : Int := fo (tv ts) (agB ks) (2 ^ m.toNat)
def told (m : Nat) (st so : Nat) : List Int := (List.range m).map fun k => if so.testBit k then bI (st.testBit k) else -1
theorem bI_eq1 (b : Bool) : (bI b == 1) = b := by cases b <;> rfl
end
section
attribute [-simp] DV.cells sliceD
attribute [local simp] cells_st cells_sl cells_i cells_y cells_b cells_s cells_w
def agW : List Int → Nat → BitVec 32 → BitVec 32
  | [], _, w => w
  | k :: r, i, w => agW r (i + 1) (if k = 0 then w &&& ~~~(yesW i) else if k = 1 then w &&& yesW i else w)
end
section
attribute [-simp] DV.cells sliceD
attribute [local simp] cells_st cells_sl cells_i cells_y cells_b cells_s cells_w
theorem div_bI (a s : Nat) : (a : Int) / 2 ^ s % 2 = bI (a.testBit s) := by
  unfold bI
  rw [Nat.testBit_eq_decide_div_mod_eq]
  have : (a : Int) / 2 ^ s % 2 = ((a / 2 ^ s % 2 : Nat) : Int) := by simp
  rw [this]
  by_cases h : a / 2 ^ s % 2 = 1
  · simp [h]
  · have : a / 2 ^ s % 2 = 0 := by omega
    simp [this]
theorem c_impl_hasTest (so k : Nat) (hk : k ≤ 40) : call lf n_impl_hasTest [.i so, .i k] = some (.b (so.testBit k), []) := by
  rw [call_k lf n_impl_hasTest _ (F := F_impl_hasTest) rfl rfl]
  have ni : ¬ (k : Int) < 0 := by omega
  have e : andI (shrI (so : Int) (k : Int)) 1 = bI (so.testBit k) := by
    rw [bit_and, shr1 (by omega) (by omega), Int.toNat_natCast, div_bI]
  simp [F_impl_hasTest, ni, e, bI_eq1]
end
section
attribute [-simp] DV.cells
attribute [local simp] cells_st cells_sl cells_i cells_y cells_b cells_s cells_w
theorem or_fin : ∀ (s : _root_.Fin 32) (k : _root_.Fin 5), orI (s.val : Int) ((2 : Int) ^ k.val) = ((s.val ||| 2 ^ k.val : Nat) : Int) := by decide +kernel
theorem or_nat {s k : Nat} (hs : s < 32) (hk : k < 5) : orI (s : Int) ((2 : Int) ^ k) = ((s ||| 2 ^ k : Nat) : Int) := or_fin ⟨s, hs⟩ ⟨k, hk⟩
end
section
/-- each of the tests once, from those on that some tests are -/
def orS (m : Int) : Nat → List Int → Bool
  | _, [] => true
  | so, a :: r => decide (0 ≤ a ∧ a < m) && !so.testBit a.toNat && orS m (so ||| 2 ^ a.toNat) r
def orOk (m : Int) (os : List Int) : Bool := nOk m && decide ((os.length : Int) = m) && orS m 0 os
def setO : Nat → List Int → Nat
  | so, [] => so
  | so, a :: r => setO (so ||| 2 ^ a.toNat) r
theorem orS_cons {m : Int} {so : Nat} {a : Int} {r : List Int} : orS m so (a :: r) = true ↔ (0 ≤ a ∧ a < m) ∧ so.testBit a.toNat = false ∧ orS m (so ||| 2 ^ a.toNat) r = true := by
  simp [orS, and_assoc]
theorem orOk_iff {m : Int} {os : List Int} : orOk m os = true ↔ (1 ≤ m ∧ m ≤ 5) ∧ (os.length : Int) = m ∧ orS m 0 os = true := by
  rw [orOk, Bool.and_eq_true, Bool.and_eq_true, nOk_iff, decide_eq_true_eq, and_assoc]
theorem setO_app : ∀ (so : Nat) (p q : List Int), setO so (p ++ q) = setO (setO so p) q
  | _, [], _ => rfl
  | so, a :: r, q => setO_app (so ||| 2 ^ a.toNat) r q
theorem orS_app {m : Int} : ∀ (so : Nat) (p q : List Int), orS m so (p ++ q) = (orS m so p && orS m (setO so p) q)
  | _, [], q => by simp [orS, setO]
  | so, a :: r, q => by simp only [List.cons_append, orS, setO, orS_app (so ||| 2 ^ a.toNat) r q, Bool.and_assoc]
theorem or_bit (so a k : Nat) : (so ||| 2 ^ a).testBit k = (so.testBit k || decide (a = k)) := by
  rw [Nat.testBit_or, Nat.testBit_two_pow]
theorem or_lt2 {m so a : Nat} (h : so < 2 ^ m) (ha : a < m) : so ||| 2 ^ a < 2 ^ m := Nat.or_lt_two_pow h (Nat.pow_lt_pow_right (by omega) ha)
theorem setO_bit : ∀ {os : List Int} {so k : Nat}, (∀ o ∈ os, 0 ≤ o) → ((setO so os).testBit k = true ↔ so.testBit k = true ∨ (k : Int) ∈ os)
  | [], _, _, _ => by simp [setO]
  | a :: r, so, k, h => by
    have ha := h a (by simp)
    rw [setO, setO_bit (os := r) (fun o ho => h o (by simp [ho])), or_bit]
    simp only [Bool.or_eq_true, decide_eq_true_eq, List.mem_cons]
    have : a.toNat = k ↔ (k : Int) = a := by omega
    rw [this, or_assoc]
/-- how many tests are not among some -/
def uc (so : Nat) : Nat → Nat
  | 0 => 0
  | i + 1 => uc so i + if so.testBit i then 0 else 1
theorem uc_zero : ∀ n, uc 0 n = n
  | 0 => rfl
  | n + 1 => by simp [uc, uc_zero n]
theorem uc_congr {a b : Nat} : ∀ {n}, (∀ k, k < n → a.testBit k = b.testBit k) → uc a n = uc b n
  | 0, _ => rfl
  | n + 1, h => by simp only [uc]; rw [uc_congr (fun k hk => h k (by omega)), h n (by omega)]
theorem uc_or {so a : Nat} : ∀ {n}, a < n → so.testBit a = false → uc (so ||| 2 ^ a) n + 1 = uc so n
  | 0, h, _ => by omega
  | n + 1, h, hb => by
    simp only [uc]
    by_cases e : a = n
    · subst e
      rw [uc_congr (a := so ||| 2 ^ a) (b := so) (fun k hk => by rw [or_bit, decide_eq_false (by omega), Bool.or_false]), or_bit, hb]
      simp
    · have := uc_or (so := so) (a := a) (n := n) (by omega) hb
      rw [or_bit, decide_eq_false e, Bool.or_false]
      omega
theorem uc_all {so : Nat} : ∀ {n}, uc so n = 0 → ∀ k, k < n → so.testBit k = true
  | 0, _, k, hk => by omega
  | n + 1, h, k, hk => by
    simp only [uc] at h
    rcases Nat.lt_succ_iff_lt_or_eq.1 hk with q | rfl
    · exact uc_all (n := n) (by omega) k q
    · cases hb : so.testBit k with
      | true => rfl
      | false => rw [hb] at h; simp at h
theorem uc_setO {m : Int} (hm : 0 ≤ m) : ∀ {os : List Int} {so : Nat}, orS m so os = true → uc (setO so os) m.toNat + os.length = uc so m.toNat
  | [], _, _ => by simp [setO]
  | a :: r, so, h => by
    obtain ⟨h1, h2, h3⟩ := orS_cons.1 h
    have i := uc_setO hm (os := r) h3
    have u := uc_or (so := so) (a := a.toNat) (n := m.toNat) (by omega) h2
    simp only [setO, List.length_cons]; omega
theorem set_all {m : Int} {os : List Int} (h : orOk m os = true) : ∀ k, k < m.toNat → (setO 0 os).testBit k = true := by
  obtain ⟨h1, h2, h3⟩ := orOk_iff.1 h
  have u := uc_setO (by omega) h3
  rw [uc_zero] at u
  exact uc_all (by omega)
def cA (us : List T) (a : Nat) : Int := (us.getD a (0, 0)).1
theorem cA_nn {us : List T} (h : us.all tOk = true) (k : Nat) : 0 ≤ cA us k ∧ (k < us.length → 1 ≤ cA us k) ∧ cA us k ≤ 9 := by
  unfold cA
  by_cases hk : k < us.length
  · have e : us.getD k (0, 0) = us[k] := by simp [List.getD, hk]
    rw [e]
    have := tOk_iff.1 (List.all_eq_true.1 h us[k] (List.getElem_mem hk))
    omega
  · have e : us.getD k (0, 0) = (0, 0) := by simp [List.getD, List.getElem?_eq_none (by omega : us.length ≤ k)]
    rw [e]; simp; omega
end
section
theorem orS_nodup {m : Int} : ∀ {os : List Int} {so : Nat}, orS m so os = true ↔ (∀ o ∈ os, (0 ≤ o ∧ o < m) ∧ so.testBit o.toNat = false) ∧ os.Nodup
  | [], so => by simp [orS]
  | a :: r, so => by
    rw [orS_cons, orS_nodup (os := r), List.nodup_cons]
    constructor
    · rintro ⟨h1, h2, h3, h4⟩
      refine ⟨fun o ho => ?_, fun hm => ?_, h4⟩
      · rcases List.mem_cons.1 ho with rfl | ho
        · exact ⟨h1, h2⟩
        · obtain ⟨q1, q2⟩ := h3 o ho
          rw [or_bit, Bool.or_eq_false_iff] at q2
          exact ⟨q1, q2.1⟩
      · have q := (h3 a hm).2
        rw [or_bit] at q; simp at q
    · rintro ⟨h1, h2, h3⟩
      obtain ⟨a1, a2⟩ := h1 a (by simp)
      refine ⟨a1, a2, fun o ho => ?_, h3⟩
      obtain ⟨q1, q2⟩ := h1 o (by simp [ho])
      refine ⟨q1, ?_⟩
      rw [or_bit, q2, Bool.false_or, decide_eq_false]
      intro e
      have : a = o := by omega
      exact h2 (this ▸ ho)
def rng (n : Nat) : List Int := (List.range n).map fun (k : Nat) => (k : Int)
theorem mem_rng {n : Nat} {o : Int} : o ∈ rng n ↔ 0 ≤ o ∧ o < n := by
  unfold rng
  rw [List.mem_map]
  constructor
  · rintro ⟨k, h, rfl⟩; have := List.mem_range.1 h; omega
  · intro h; exact ⟨o.toNat, List.mem_range.2 (by omega), by omega⟩
theorem orOk_len {m : Int} {os : List Int} (h : orOk m os = true) : (os.length : Int) = m := (orOk_iff.1 h).2.1
end
section
def hkn (m : Nat) (ks : List Int) (so : Nat) : Prop := ∀ k, k < m → (ks[k]? = some (-1) ↔ so.testBit k = false)
def non (m : Nat) : List Int := List.replicate m (-1)
end
section
attribute [-simp] DV.cells sliceD
attribute [local simp] cells_st cells_sl cells_i cells_y cells_b cells_s cells_w
theorem hasTest_i {so : Nat} {a : Int} (h0 : 0 ≤ a) (h5 : a < 5) : call lf n_impl_hasTest [.i so, .i a] = some (.b (so.testBit a.toNat), []) := by
  have := c_impl_hasTest so a.toNat (by omega)
  rw [Int.toNat_of_nonneg h0] at this
  exact this
theorem or_i {so : Nat} {a : Int} (hs : so < 32) (h0 : 0 ≤ a) (h5 : a < 5) : orI (so : Int) (shlI 1 a) = ((so ||| 2 ^ a.toNat : Nat) : Int) := by
  rw [shl1 h0 (by omega)]
  exact or_nat hs (by omega)
theorem pow_le5 {m : Int} (h : 1 ≤ m ∧ m ≤ 5) : 2 ^ m.toNat ≤ 32 := (pow5 h.1 h.2).2.1
theorem l_impl_OrderOk {m : Int} (hm : 1 ≤ m ∧ m ≤ 5) (n : Int) (hb : n < 1099511627776) (es : List DV) (rest : List Int) : ∀ (k : Int) (so : Nat), so < 2 ^ m.toNat → 0 ≤ k → k + (rest.map DV.i).length = n → es.drop k.toNat = rest.map .i →
    ex lf F_impl_OrderOk_W0 ⟨[(0, .i m), (5, .i so), (17, .sl 0 es), (18, .i n), (19, .i k)], []⟩ =
    if orS m so rest = true then some (.exit 0, ⟨[(0, .i m), (5, .i (setO so rest : Nat)), (17, .sl 0 es), (18, .i n), (19, .i n)], []⟩) else some (.ret, ⟨[(4, .b false)], []⟩) := by
  have p5 := pow_le5 hm
  induction rest with
  | nil =>
    intro k so hs h0 hn hd
    rw [w_impl_OrderOk_0]
    have hk : k = n := by simpa using hn
    simp [F_impl_OrderOk_L0, hk, orS, setO]
  | cons a rest ih =>
    intro k so hs h0 hn hd
    obtain ⟨q1, q2, q3, q4, q5, q6⟩ := stp h0 hn hb hd
    have w : wr (m - 1) = m - 1 := wr_id (by omega) (by omega)
    rw [w_impl_OrderOk_0]
    by_cases ha : 0 ≤ a ∧ a < m
    · have e1 : decide (0 ≤ a ∧ a ≤ m - 1) = true := decide_eq_true (by omega)
      have e2 : decide (0 ≤ a ∧ a < m) = true := decide_eq_true ha
      have H := hasTest_i (so := so) ha.1 (by omega)
      have n0 : ¬ a < 0 := by omega
      have o := or_i (so := so) (by omega) ha.1 (by omega : a < 5)
      have ih := ih (k + 1) (so ||| 2 ^ a.toNat) (or_lt2 hs (by omega)) q4 q5 q6
      simp only [orS, e2, Bool.true_and, setO]
      cases hb : so.testBit a.toNat with
      | true =>
        rw [hb] at H
        simp [F_impl_OrderOk_L0, q1, q2, q3, w, c_impl_isWithin, e1, H]
      | false =>
        rw [hb] at H
        simp [F_impl_OrderOk_L0, q1, q2, q3, w, c_impl_isWithin, e1, H, n0, o, ih]
    · have e1 : decide (0 ≤ a ∧ a ≤ m - 1) = false := decide_eq_false (by omega)
      have e2 : decide (0 ≤ a ∧ a < m) = false := decide_eq_false ha
      simp only [orS, e2, Bool.false_and]
      simp [F_impl_OrderOk_L0, q1, q2, q3, w, c_impl_isWithin, e1]
theorem c_impl_OrderOk (m : Int) (os : List Int) (hb : (os.length : Int) < 1099511627776) : call lf n_impl_OrderOk [.i m, .sl 0 (os.map .i)] = some (.b (orOk m os), []) := by
  rw [call_k lf n_impl_OrderOk _ (F := F_impl_OrderOk) rfl rfl]
  unfold orOk
  cases h1 : nOk m with
  | false => simp [F_impl_OrderOk, c_impl_manyOk, h1]
  | true =>
    by_cases h2 : (os.length : Int) = m
    · have L := l_impl_OrderOk (nOk_iff.1 h1) os.length hb (os.map .i) os 0 0 (Nat.pow_pos (by omega)) (by omega) (by simp) (by simp)
      simp only [Int.natCast_zero] at L
      cases h3 : orS m 0 os <;> rw [h3] at L <;> simp at L <;> simp [F_impl_OrderOk, c_impl_manyOk, h1, h2, L, h3] <;> (subst h2; simp [L])
    · have y : ((os.length : Int) != m) = true := bne_iff_ne.2 h2
      simp [F_impl_OrderOk, c_impl_manyOk, h1, y, h2]
theorem l_spec_OrderOk (m : Int) (n : Int) (hb : n < 1099511627776) (es : List DV) (hE : (es.length : Int) = n) (rest : List Int) : ∀ (k : Int) (so : Nat), so < 32 → 0 ≤ k → k + (rest.map DV.i).length = n → es.drop k.toNat = rest.map .i →
    ex lf F_spec_OrderOk_W0 ⟨[(0, .i m), (1, .sl 0 es), (5, .i so), (6, .i k)], []⟩ =
    if orS (min m 5) so rest = true then some (.exit 0, ⟨[(0, .i m), (1, .sl 0 es), (5, .i (setO so rest : Nat)), (6, .i n)], []⟩) else some (.ret, ⟨[(4, .b false)], []⟩) := by
  induction rest with
  | nil =>
    intro k so hs h0 hn hd
    rw [w_spec_OrderOk_0]
    have hk : k = n := by simpa using hn
    simp [F_spec_OrderOk_L0, hk, hE, orS, setO]
  | cons a rest ih =>
    intro k so hs h0 hn hd
    obtain ⟨q1, q2, q3, q4, q5, q6⟩ := stp h0 hn hb hd
    rw [w_spec_OrderOk_0]
    by_cases a0 : a < 0
    · have e2 : decide (0 ≤ a ∧ a < min m 5) = false := decide_eq_false (by omega)
      simp only [orS, e2, Bool.false_and]
      simp [F_spec_OrderOk_L0, q1, q2, hE, a0]
    · by_cases a1 : m ≤ a
      · have e2 : decide (0 ≤ a ∧ a < min m 5) = false := decide_eq_false (by omega)
        simp only [orS, e2, Bool.false_and]
        simp [F_spec_OrderOk_L0, q1, q2, hE, a0, a1]
      · by_cases a5 : 5 ≤ a
        · have e2 : decide (0 ≤ a ∧ a < min m 5) = false := decide_eq_false (by omega)
          simp only [orS, e2, Bool.false_and]
          simp [F_spec_OrderOk_L0, q1, q2, hE, a0, a1, a5]
        · have e2 : decide (0 ≤ a ∧ a < min m 5) = true := decide_eq_true (by omega)
          have o := or_i (so := so) (by omega) (by omega : 0 ≤ a) (by omega : a < 5)
          have bb := bit_bI (a := so) (s := a.toNat) (by omega)
          rw [Int.toNat_of_nonneg (by omega)] at bb
          have ih := ih (k + 1) (so ||| 2 ^ a.toNat) (or_lt2 (m := 5) hs (by omega)) q4 q5 q6
          simp only [orS, e2, Bool.true_and, setO]
          cases hb : so.testBit a.toNat with
          | true =>
            rw [hb] at bb
            have q : (bI true == 1) = true := rfl
            simp [F_spec_OrderOk_L0, q1, q2, hE, a0, a1, a5, bb, q]
          | false =>
            rw [hb] at bb
            have q : (bI false == 1) = false := rfl
            simp [F_spec_OrderOk_L0, q1, q2, q3, hE, a0, a1, a5, bb, q, o, ih]
theorem c_spec_OrderOk (m : Int) (os : List Int) (hb : (os.length : Int) < 1099511627776) : call lf n_spec_OrderOk [.i m, .sl 0 (os.map .i)] = some (.b (orOk m os), []) := by
  rw [call_k lf n_spec_OrderOk _ (F := F_spec_OrderOk) rfl rfl]
  have L := l_spec_OrderOk m os.length hb (os.map .i) (by simp) os 0 0 (by omega) (by omega) (by simp) (by simp)
  simp only [Int.natCast_zero] at L
  have e1 : nOk m = decide (1 ≤ m ∧ m ≤ 5) := rfl
  unfold orOk
  cases h1 : decide (1 ≤ m ∧ m ≤ 5) with
  | false =>
    rw [e1, h1]
    cases h3 : orS (min m 5) 0 os <;> rw [h3] at L <;> simp at L <;> simp [F_spec_OrderOk, L, c_spec_l1In, h1]
  | true =>
    rw [e1, h1]
    have hm := of_decide_eq_true h1
    have e5 : min m 5 = m := by omega
    rw [e5] at L
    by_cases h2 : (os.length : Int) = m
    · cases h3 : orS m 0 os <;> rw [h3] at L <;> simp at L <;> simp [F_spec_OrderOk, L, c_spec_l1In, h1, h2]
    · cases h3 : orS m 0 os <;> rw [h3] at L <;> simp at L <;> simp [F_spec_OrderOk, L, c_spec_l1In, h1, h2]
end
section
def rwOk (row : Int) : Bool := decide (0 ≤ row ∧ row ≤ 1)
/-- the chance of a test to end a row -/
def eA (us : List T) (row : Int) (a : Nat) : Int := if row = 0 then 6 - (us.getD a (0, 0)).2 else (us.getD a (0, 0)).2
def rA (us : List T) (row : Int) : Int → List Int → Int
  | _, [] => 0
  | on, a :: r => cA us a.toNat * on * 6 ^ (r.length + 1) + rA us row (on * (6 - eA us row a.toNat)) r
theorem eA_bd {us : List T} (h : us.all tOk = true) {row : Int} {a : Nat} (ha : a < us.length) : 1 ≤ eA us row a ∧ eA us row a ≤ 5 := by
  have e : us.getD a (0, 0) = us[a] := by simp [List.getD, ha]
  have := tOk_iff.1 (List.all_eq_true.1 h us[a] (List.getElem_mem ha))
  unfold eA
  rw [e]
  split <;> omega
end
section
theorem rng_nodup (n : Nat) : (rng n).Nodup := List.Pairwise.map _ (fun a b h e => h (by omega)) (List.nodup_range (n := n))
theorem or_perm {m : Int} {os : List Int} (h : orOk m os = true) : os.Perm (rng m.toNat) := by
  obtain ⟨g1, g2, g3⟩ := orOk_iff.1 h
  obtain ⟨n1, n2⟩ := orS_nodup.1 g3
  refine (List.perm_ext_iff_of_nodup n2 (rng_nodup _)).2 fun o => ?_
  constructor
  · intro ho
    exact mem_rng.2 (by have := (n1 o ho).1; omega)
  · intro ho
    have hr := mem_rng.1 ho
    have := set_all h o.toNat (by omega)
    rw [setO_bit (fun x hx => (n1 x hx).1.1)] at this
    rcases this with q | q
    · simp at q
    · rwa [Int.toNat_of_nonneg hr.1] at q
end
section
def prR (us : List T) (row : Int) : Int → List Int → Int
  | on, [] => on
  | on, a :: r => prR us row (on * (6 - eA us row a.toNat)) r
end
section
attribute [-simp] DV.cells sliceD
attribute [local simp] cells_st cells_sl cells_i cells_y cells_b cells_s cells_w
theorem cA_at {us : List T} {a : Int} (h0 : 0 ≤ a) (h1 : a < us.length) : ∃ c q : Int, atI (us.map e2) a = some (.st [.i c, .i q]) ∧ c = cA us a.toNat ∧ us.getD a.toNat (0, 0) = (c, q) := by
  have hl : a.toNat < us.length := by omega
  have e : us.getD a.toNat (0, 0) = us[a.toNat] := by simp [List.getD, hl]
  refine ⟨us[a.toNat].1, us[a.toNat].2, ?_, ?_, e⟩
  · simp only [atI, if_pos h0]
    show (us.map e2)[a.toNat]? = _
    simp [hl, e2]
  · unfold cA; rw [e]
end
section
attribute [-simp] DV.cells sliceD
attribute [local simp] cells_st cells_sl cells_i cells_y cells_b cells_s cells_w
theorem p6 : ∀ {n : Nat}, n ≤ 5 → (1 : Int) ≤ 6 ^ n ∧ (6 : Int) ^ n ≤ 7776 := by
  intro n hn
  have : n = 0 ∨ n = 1 ∨ n = 2 ∨ n = 3 ∨ n = 4 ∨ n = 5 := by omega
  rcases this with rfl | rfl | rfl | rfl | rfl | rfl <;> decide
theorem c_spec_l1Power {n : Nat} (h : n ≤ 5) : call lf n_spec_l1Power [.i n] = some (.i (6 ^ n), []) := by
  have L := loop_count (lf := lf) (L := F_spec_l1Power_L0) n (fun i => ⟨[(0, .i n), (3, .i (6 ^ i)), (4, .i i)], []⟩) (x := .exit 0) (R := ⟨[(0, .i n), (3, .i (6 ^ n)), (4, .i n)], []⟩) (fun i hi => by
    have p := p6 (n := i) (by omega)
    have w1 : wr ((i : Int) + 1) = i + 1 := wr_id (by omega) (by omega)
    have w2 : wr ((6 : Int) ^ i * 6) = 6 ^ (i + 1) := by rw [wr_id (by omega) (by omega), Int.pow_succ]
    simp [F_spec_l1Power_L0, hi, w1, w2]) (by simp [F_spec_l1Power_L0]) (by simp)
  have L' : ex lf F_spec_l1Power_W0 ⟨[(0, .i n), (3, .i 1), (4, .i 0)], []⟩ = some (.exit 0, ⟨[(0, .i n), (3, .i (6 ^ n)), (4, .i n)], []⟩) := L
  rw [call_k lf n_spec_l1Power _ (F := F_spec_l1Power) rfl rfl]
  simp [F_spec_l1Power, L']
def stW (us : List T) (tab : Nat) (os : List Int) (k : Nat) (ks : List Int) (w a sum sd : Int) : LS :=
  ⟨[(0, .sl 0 (us.map e2)), (1, .i tab), (2, .sl 0 (os.map .i)), (3, .i k), (4, .sl 0 (ks.map .i)), (5, .i w), (13, .i a), (14, .i sum), (15, .i sd)], []⟩
end
section
attribute [-simp] DV.cells
attribute [local simp] sliceD cells_st cells_sl cells_i cells_y cells_b cells_s cells_w
theorem c_spec_l5Ends (c q row : Int) (hq : 1 ≤ q ∧ q ≤ 5) : call lf n_spec_l5Ends [.st [.i c, .i q], .i row] = some (.i (if row = 0 then 6 - q else q), []) := by
  have w1 : wr (6 - q) = 6 - q := wr_id (by omega) (by omega)
  rw [call_k lf n_spec_l5Ends _ (F := F_spec_l5Ends) rfl rfl]
  by_cases h : row = 0
  · simp [F_spec_l5Ends, h, w1]
  · have h' : (row == 0) = false := by simp [h]
    simp [F_spec_l5Ends, h, h']
def raOk (us : List T) (os : List Int) (row : Int) : Bool := tsOk us && orOk us.length os && rwOk row
def raOf (us : List T) (os : List Int) (row : Int) : Int := if raOk us os row then rA us row 1 os else -1
theorem p6le {i j : Nat} (h : i + j ≤ 5) {on : Int} (h0 : 0 ≤ on) (h1 : on ≤ 6 ^ i) : 0 ≤ on * 6 ^ j ∧ on * 6 ^ j ≤ 7776 := by
  have pj := p6 (n := j) (by omega)
  have q := (p6 h).2
  rw [Int.pow_add] at q
  have := Int.mul_le_mul_of_nonneg_right h1 (show (0 : Int) ≤ 6 ^ j by omega)
  have := Int.mul_nonneg h0 (show (0 : Int) ≤ 6 ^ j by omega)
  omega
theorem eA_call {us : List T} (h : us.all tOk = true) {row a : Int} (h0 : 0 ≤ a) (h1 : a < us.length) : ∃ c q : Int, atI (us.map e2) a = some (.st [.i c, .i q]) ∧ c = cA us a.toNat ∧ call lf n_spec_l5Ends [.st [.i c, .i q], .i row] = some (.i (eA us row a.toNat), []) := by
  obtain ⟨c, q, c1, c2, c3⟩ := cA_at (us := us) h0 h1
  refine ⟨c, q, c1, c2, ?_⟩
  have e : us.getD a.toNat (0, 0) = us[a.toNat] := by simp [List.getD, show a.toNat < us.length by omega]
  have tq := tOk_iff.1 (List.all_eq_true.1 h us[a.toNat] (List.getElem_mem (by omega)))
  rw [← e, c3] at tq
  rw [c_spec_l5Ends c q row tq.2]
  unfold eA
  rw [c3]
theorem l_spec_RowAverage {us : List T} (h : tsOk us = true) (row : Int) (os : List Int) (ho5 : os.length ≤ 5) (rest : List Int) : ∀ (k : Nat) (on sum : Int) (so : Nat), orS us.length so rest = true → 0 ≤ on → on ≤ 6 ^ k → 0 ≤ sum → sum ≤ 70000 * k → k + rest.length = os.length → (os.map DV.i).drop k = rest.map .i →
    ∃ on' : Int, ex lf F_spec_RowAverage_W0 ⟨[(0, .sl 0 (us.map e2)), (1, .sl 0 (os.map .i)), (2, .i row), (7, .i sum), (8, .i on), (9, .i k)], []⟩ =
      some (.exit 0, ⟨[(0, .sl 0 (us.map e2)), (1, .sl 0 (os.map .i)), (2, .i row), (7, .i (sum + rA us row on rest)), (8, .i on'), (9, .i os.length)], []⟩) := by
  have h' := tsOk_iff.1 h
  induction rest with
  | nil =>
    intro k on sum so ho n0 n1 s0 s1 hn hd
    have hk : k = os.length := by simpa using hn
    refine ⟨on, ?_⟩
    rw [w_spec_RowAverage_0]
    simp [F_spec_RowAverage_L0, hk, rA]
  | cons a rest ih =>
    intro k on sum so ho n0 n1 s0 s1 hn hd
    obtain ⟨o1, o2, o3⟩ := orS_cons.1 ho
    have hn2 : (k : Int) + ((DV.i a :: rest.map DV.i).length : Nat) = os.length := by simp at hn ⊢; omega
    obtain ⟨q1, q2, q3, q4, q5, q6⟩ := stp (es := os.map DV.i) (by omega) hn2 (by omega) (by simpa using hd)
    have kl : k < os.length := by omega
    obtain ⟨c, q, x1, x2, x3⟩ := eA_call h'.2 (row := row) o1.1 o1.2
    have cn := cA_nn h'.2 a.toNat
    have ea := eA_bd h'.2 (row := row) (a := a.toNat) (by omega)
    have hl : rest.length + 1 = os.length - k := by simp at hn; omega
    have pb := p6le (i := k) (j := rest.length + 1) (by omega) n0 n1
    have pk := p6 (n := k) (by omega)
    have C := c_spec_l1Power (n := rest.length + 1) (by omega)
    have w1 : wr ((os.length : Int) - k) = ((rest.length + 1 : Nat) : Int) := by rw [wr_id (by omega) (by omega)]; omega
    have m1 : 0 ≤ c * on ∧ c * on ≤ 9 * 7776 := ⟨Int.mul_nonneg (by omega) n0, Int.mul_le_mul (by omega) (by omega) n0 (by omega)⟩
    have w2 : wr (c * on) = c * on := wr_id (by omega) (by omega)
    have m2 : 0 ≤ c * on * 6 ^ (rest.length + 1) ∧ c * on * 6 ^ (rest.length + 1) ≤ 9 * 7776 := by
      rw [Int.mul_assoc]
      exact ⟨Int.mul_nonneg (by omega) pb.1, Int.mul_le_mul (by omega) pb.2 pb.1 (by omega)⟩
    have w3 : wr (c * on * 6 ^ (rest.length + 1)) = c * on * 6 ^ (rest.length + 1) := wr_id (by omega) (by omega)
    have w4 : wr (sum + c * on * 6 ^ (rest.length + 1)) = sum + c * on * 6 ^ (rest.length + 1) := wr_id (by omega) (by omega)
    have w5 : wr (6 - eA us row a.toNat) = 6 - eA us row a.toNat := wr_id (by omega) (by omega)
    have m3 : 0 ≤ on * (6 - eA us row a.toNat) ∧ on * (6 - eA us row a.toNat) ≤ 6 ^ (k + 1) := by
      refine ⟨Int.mul_nonneg n0 (by omega), ?_⟩
      rw [Int.pow_succ]
      exact Int.mul_le_mul n1 (by omega) (by omega) (by omega)
    have pk1 := p6 (n := k + 1) (by omega)
    have w6 : wr (on * (6 - eA us row a.toNat)) = on * (6 - eA us row a.toNat) := wr_id (by omega) (by omega)
    obtain ⟨on', I⟩ := ih (k + 1) (on * (6 - eA us row a.toNat)) (sum + c * on * 6 ^ (rest.length + 1)) _ o3 m3.1 m3.2 (by omega) (by omega) (by simp at hn; omega) (by simpa using q6)
    refine ⟨on', ?_⟩
    have q3' : wr ((k : Int) + 1) = ((k + 1 : Nat) : Int) := by rw [q3]; omega
    have e : sum + rA us row on (a :: rest) = sum + c * on * 6 ^ (rest.length + 1) + rA us row (on * (6 - eA us row a.toNat)) rest := by simp only [rA, x2]; omega
    have o11 := o1.1
    have o12 := o1.2
    rw [w_spec_RowAverage_0, e]
    generalize (6 : Int) ^ (rest.length + 1) = P at *
    generalize rA us row _ rest = Z at *
    generalize eA us row a.toNat = E at *
    simp [F_spec_RowAverage_L0, kl, q1, q2, q3', o11, o12, x1, x3, C, w1, w2, w3, w4, w5, w6, I, -Int.natCast_add]
theorem c_spec_RowAverage (us : List T) (os : List Int) (row : Int) (ha : (us.length : Int) < 1099511627776) (hc : (os.length : Int) < 1099511627776) :
    call lf n_spec_RowAverage [.sl 0 (us.map e2), .sl 0 (os.map .i), .i row] = some (.i (raOf us os row), []) := by
  rw [call_k lf n_spec_RowAverage _ (F := F_spec_RowAverage) rfl rfl]
  have C1 := c_spec_TestsOk us ha
  have C3 := c_spec_OrderOk us.length os hc
  unfold raOf raOk
  cases h1 : tsOk us with
  | false => rw [h1] at C1; simp [F_spec_RowAverage, C1]
  | true =>
    rw [h1] at C1
    cases h3 : orOk us.length os with
    | false => rw [h3] at C3; simp [F_spec_RowAverage, C1, C3]
    | true =>
      rw [h3] at C3
      cases h4 : rwOk row with
      | false =>
        have d : decide (0 ≤ row ∧ row ≤ 1) = false := h4
        simp [F_spec_RowAverage, C1, C3, c_spec_l1In, d]
      | true =>
        have d : decide (0 ≤ row ∧ row ≤ 1) = true := h4
        obtain ⟨g1, g2, g3⟩ := orOk_iff.1 h3
        obtain ⟨on', L⟩ := l_spec_RowAverage h1 row os (by omega) os 0 1 0 0 g3 (by omega) (by omega) (by omega) (by omega) (by omega) (by simp)
        simp only [Int.natCast_zero, Int.zero_add] at L
        simp [F_spec_RowAverage, C1, C3, c_spec_l1In, d, L]
end
section
inductive PT where
  | stop
  | ask (k : Nat) (no yes : PT)
def fcd (m : Nat) (t : List T) (ks : List Int) : Bool := foT m t ks != -1
end
section
open Classical in
noncomputable def rc (P : Nat → Prop) : Nat → Nat
  | 0 => 0
  | n + 1 => rc P n + if P n then 1 else 0
end
section
abbrev C3 := Int × Int × Int
/-- a tree with the places of its choices -/
inductive LT where
  | stop
  | ask (p k : Nat) (no yes : LT)
def LT.size : LT → Nat
  | .stop => 0
  | .ask _ _ n y => 1 + n.size + y.size
/-- where one may go on to from a place -/
def nxt (N : Nat) (p : Nat) (a : Int) : Prop := a = -1 ∨ ((p : Int) + 1 ≤ a ∧ a ≤ (N : Int) - 1)
instance (N p : Nat) (a : Int) : Decidable (nxt N p a) := by unfold nxt; infer_instance
/-- the row holds the tree, from a place on -/
def enc (P : List C3) : Int → LT → Prop
  | a, .stop => a = -1
  | a, .ask p k n y => a = (p : Int) ∧ ∃ no ye, P[p]? = some ((k : Int), no, ye) ∧ nxt P.length p no ∧ nxt P.length p ye ∧ enc P no n ∧ enc P ye y
/-- where a row goes on to -/
def rfs : List C3 → List Int
  | [] => []
  | (_, no, ye) :: r => (if no = -1 then [] else [no]) ++ (if ye = -1 then [] else [ye]) ++ rfs r
end
section
def PT.size : PT → Nat
  | .stop => 0
  | .ask _ n y => 1 + n.size + y.size
def rot (P : List C3) : Int := if P = [] then -1 else 0
end
section
attribute [-simp] DV.cells
attribute [local simp] sliceD cells_st cells_sl cells_i cells_y cells_b cells_s cells_w
theorem lend_e3 (P : List C3) : lendL (P.map e3) = P.map e3 := by rw [lendL_map, List.map_map]; rfl
theorem adopt_e3 (o : Bool) (P : List C3) : adoptL o (P.map e3) = P.map e3 := by rw [adoptL_map, List.map_map]; rfl
theorem new_e3 (P : List C3) : allNewL (P.map e3) = true := by rw [allNewL_all, List.all_map, List.all_eq_true]; intro x _; rfl
theorem al_e3 (P : List C3) : allOldL (P.map e3) = true := by rw [allOldL_all, List.all_map, List.all_eq_true]; intro x _; rfl
theorem lt_e3 (n : Nat) (P : List C3) : lendL (List.take n (P.map e3)) = List.take n (P.map e3) := by rw [← List.map_take, lend_e3]
attribute [local simp] lend_e3 adopt_e3 new_e3 al_e3 lt_e3
def C3.nx (c : C3) (b : Bool) : Int := if b then c.2.2 else c.2.1
end
section
def aN : List Int → Nat
  | [] => 0
  | k :: r => (if k = -1 then 0 else 1) + 2 * aN r
def kn : List Int → Nat
  | [] => 0
  | k :: r => (if k = -1 then 0 else 1) + kn r
/-- what agrees, as a number -/
def lfW (ks : List Int) : BitVec 32 := agW ks 0 (4294967295#32)
end
section
abbrev Pts := List (Option (List Int))
/-- one goes on to where it is noted -/
def go3 (m : Nat) (t : List T) (N : Nat) (pts : Pts) (p : Int) (a : Int) (ks : List Int) : Prop :=
  (a = -1 ∧ fcd m t ks = true) ∨ (p + 1 ≤ a ∧ a ≤ (N : Int) - 1 ∧ pts[a.toNat]? = some (some ks))
structure Inv (m : Nat) (t : List T) (P : List C3) (p : Nat) (pts : Pts) : Prop where
  len : pts.length = P.length
  nd : (rfs (P.take p)).Nodup
  rng : ∀ a ∈ rfs (P.take p), 1 ≤ a ∧ a < P.length
  iff_ : ∀ a : Nat, a < P.length → (pts[a]? ≠ some none ↔ (a = 0 ∨ (a : Int) ∈ rfs (P.take p)))
  ok : ∀ (a : Nat) (ks : List Int), pts[a]? = some (some ks) → ks.length = m ∧ ks.all kOk = true ∧ fcd m t ks = false
  loc : ∀ q : Nat, q < p → ∃ (ks : List Int) (k no ye : Int), P[q]? = some (k, no, ye) ∧ pts[q]? = some (some ks) ∧ (0 ≤ k ∧ k < m) ∧ ks[k.toNat]? = some (-1) ∧ go3 m t P.length pts q no (ks.set k.toNat 0) ∧ go3 m t P.length pts q ye (ks.set k.toNat 1)
theorem none_of {pts : Pts} {a : Nat} (h : a < pts.length) (hn : ¬ pts[a]? ≠ some none) : pts[a]? = some none := Classical.not_not.1 hn
end
section
attribute [-simp] DV.cells
attribute [local simp] sliceD cells_st cells_sl cells_i cells_y cells_b cells_s cells_w
attribute [local simp] lend_e3 adopt_e3 new_e3 al_e3 lt_e3
def pv (m a : Int) (w v : BitVec 32) : DV := .st [.i m, .i a, .w w, .w v]
/-- the point at which so much is known -/
def pD (m : Nat) (t : List T) (ks : List Int) : DV := pv m (aN ks) (lfW ks) (tsW t)
end
section
attribute [-simp] DV.cells
attribute [local simp] sliceD cells_st cells_sl cells_i cells_y cells_b cells_s cells_w
attribute [local simp] lend_e3 adopt_e3 new_e3 al_e3 lt_e3
def e4 (m : Nat) (t : List T) : Option (List Int) → DV
  | some ks => pD m t ks
  | none => pv 0 0 (0#32) (0#32)
end
section
attribute [-simp] DV.cells
attribute [local simp] sliceD cells_st cells_sl cells_i cells_y cells_b cells_s cells_w
attribute [local simp] lend_e3 adopt_e3 new_e3 al_e3 lt_e3
structure Fin (m : Nat) (t : List T) (P : List C3) (L : LT) (pts : Pts) : Prop where
  inv : Inv m t P P.length pts
  start : go3 m t P.length pts (-1) (rot P) (non m)
end
section
attribute [-simp] DV.cells
attribute [local simp] sliceD cells_st cells_sl cells_i cells_y cells_b cells_s cells_w
theorem c_impl_wholeOf {n : Nat} (hn : n ≤ 5) : call lf n_impl_wholeOf [.i n] = some (.i (6 ^ n), []) := by
  rw [call_k lf n_impl_wholeOf _ (F := F_impl_wholeOf) rfl rfl]
  have L := loop_count (lf := lf) (L := F_impl_wholeOf_L0) n (fun i => ⟨[(3, .i (6 ^ i)), (4, .i n), (5, .i i)], []⟩) (x := .exit 0) (R := ⟨[(3, .i (6 ^ n)), (4, .i n), (5, .i n)], []⟩) (fun i hi => by
    have p := p6 (n := i) (by omega)
    have w1 : wr ((i : Int) + 1) = i + 1 := wr_id (by omega) (by omega)
    have w2 : wr ((6 : Int) ^ i * 6) = 6 ^ i * 6 := wr_id (by omega) (by omega)
    simp [F_impl_wholeOf_L0, hi, w1, w2, Int.pow_succ]) (by simp [F_impl_wholeOf_L0]) (by simp)
  have L' : ex lf F_impl_wholeOf_W0 ⟨[(3, .i 1), (4, .i n), (5, .i 0)], []⟩ = some (.exit 0, ⟨[(3, .i (6 ^ n)), (4, .i n), (5, .i n)], []⟩) := L
  simp [F_impl_wholeOf, L']
end
section
attribute [-simp] DV.cells
attribute [local simp] sliceD cells_st cells_sl cells_i cells_y cells_b cells_s cells_w
attribute [local simp] lend_e3 adopt_e3 new_e3 al_e3 lt_e3
theorem c_averageAsking {c q no yes : Int} {n : Nat} (hn : n ≤ 5) (hc : 1 ≤ c ∧ c ≤ 9) (hq : 1 ≤ q ∧ q ≤ 5) (h0 : 0 ≤ no ∧ no ≤ 400000) (h1 : 0 ≤ yes ∧ yes ≤ 400000) :
    call lf n_impl_averageAsking [.st [.i c, .i q], .i n, .i no, .i yes] = some (.i (c * 6 ^ n + (6 - q) * no + q * yes), []) := by
  have W := c_impl_wholeOf hn
  have p := p6 hn
  have b1 : c * 6 ^ n ≤ 9 * 7776 := Int.mul_le_mul hc.2 p.2 (by omega) (by omega)
  have b1' : 0 ≤ c * 6 ^ n := Int.mul_nonneg (by omega) (by omega)
  have b2 : (6 - q) * no ≤ 5 * 400000 := Int.mul_le_mul (by omega) h0.2 h0.1 (by omega)
  have b2' : 0 ≤ (6 - q) * no := Int.mul_nonneg (by omega) h0.1
  have b3 : q * yes ≤ 5 * 400000 := Int.mul_le_mul (by omega) h1.2 h1.1 (by omega)
  have b3' : 0 ≤ q * yes := Int.mul_nonneg (by omega) h1.1
  have w2 : wr (c * 6 ^ n) = c * 6 ^ n := wr_id (by omega) (by omega)
  have w3 : wr (6 - q) = 6 - q := wr_id (by omega) (by omega)
  have w4 : wr ((6 - q) * no) = (6 - q) * no := wr_id (by omega) (by omega)
  have w5 : wr (c * 6 ^ n + (6 - q) * no) = c * 6 ^ n + (6 - q) * no := wr_id (by omega) (by omega)
  have w6 : wr (q * yes) = q * yes := wr_id (by omega) (by omega)
  have w7 : wr (c * 6 ^ n + (6 - q) * no + q * yes) = c * 6 ^ n + (6 - q) * no + q * yes := wr_id (by omega) (by omega)
  rw [call_k lf n_impl_averageAsking _ (F := F_impl_averageAsking) rfl rfl]
  generalize (6 : Int) ^ n = z at *
  simp [F_impl_averageAsking, W, w2, w3, w4, w5, w6, w7]
end
section
/-- what it costs, the parts in which it ends all, and its whole -/
abbrev I3 := Int × Int × Int
def gM : List I3 → Int
  | [] => 1
  | x :: r => x.2.2 * gM r
def gD : List I3 → Int
  | [] => 0
  | x :: r => x.1 * gM r + (x.2.2 - x.2.1) * gD r
def iOk (x : I3) : Prop := 0 ≤ x.1 ∧ 0 < x.2.1 ∧ x.2.1 ≤ x.2.2
theorem gM_pos : ∀ {l : List I3}, (∀ x ∈ l, iOk x) → 0 < gM l
  | [], _ => by simp [gM]
  | x :: r, h => by
    have hx := h x List.mem_cons_self
    have := gM_pos (l := r) (fun y hy => h y (List.mem_cons_of_mem _ hy))
    exact Int.mul_pos (by unfold iOk at hx; omega) this
theorem gM_app : ∀ p q : List I3, gM (p ++ q) = gM p * gM q
  | [], q => by simp [gM]
  | x :: p, q => by simp only [List.cons_append, gM]; rw [gM_app p q, Int.mul_assoc]
theorem gM_perm {p q : List I3} (h : p.Perm q) : gM p = gM q := by
  induction h with
  | nil => rfl
  | cons x _ ih => simp only [gM]; rw [ih]
  | swap x y l => simp only [gM]; rw [Int.mul_left_comm]
  | trans _ _ a b => exact a.trans b
theorem gD_nn : ∀ {l : List I3}, (∀ x ∈ l, iOk x) → 0 ≤ gD l
  | [], _ => by simp [gD]
  | x :: r, h => by
    obtain ⟨h1, h2, h3⟩ := h x List.mem_cons_self
    have hr : ∀ y ∈ r, iOk y := fun y hy => h y (List.mem_cons_of_mem _ hy)
    have a := Int.mul_nonneg h1 (Int.le_of_lt (gM_pos hr))
    have b := Int.mul_nonneg (show 0 ≤ x.2.2 - x.2.1 by omega) (gD_nn hr)
    simp only [gD]
    omega
end
section
def pA (us : List T) (k : Nat) : Int := (us.getD k (0, 0)).2
theorem pA_bd {us : List T} (h : us.all tOk = true) {k : Nat} (hk : k < us.length) : 1 ≤ pA us k ∧ pA us k ≤ 5 := by
  unfold pA
  have e : us.getD k (0, 0) = us[k] := by simp [List.getD, hk]
  rw [e]
  have := tOk_iff.1 (List.all_eq_true.1 h us[k] (List.getElem_mem hk))
  omega
/-- groups: all tests, each once -/
structure Gok (m : Nat) (L : List (List Nat)) : Prop where
  lt : ∀ g ∈ L, ∀ k ∈ g, k < m
  nd : L.flatten.Nodup
  all : ∀ k, k < m → k ∈ L.flatten
  ne : ∀ g ∈ L, g ≠ []
end
section
theorem gok_len {m : Nat} {L : List (List Nat)} (G : Gok m L) : L.flatten.length = m := by
  have : L.flatten.Perm (List.range m) := (List.perm_ext_iff_of_nodup G.nd List.nodup_range).2 fun k => by
    rw [List.mem_range]
    refine ⟨fun hk => ?_, G.all k⟩
    obtain ⟨g, h1, h2⟩ := List.mem_flatten.1 hk
    exact G.lt g h1 k h2
  rw [this.length_eq, List.length_range]
end
section
attribute [-simp] DV.cells
attribute [local simp] sliceD cells_st cells_sl cells_i cells_y cells_b cells_s cells_w
theorem lend_eR (L : List (List Int)) : lendL (L.map eR) = L.map eR := by
  rw [lendL_map, List.map_map]
  apply List.map_congr_left
  intro r _
  simp [eR, DV.lend]
theorem al_eR (L : List (List Int)) : allOldL (L.map eR) = true := by
  rw [allOldL_all, List.all_map, List.all_eq_true]
  intro r _
  simp [eR, DV.allOld]
attribute [local simp] lend_eR al_eR
def gokB (m : Int) (L : List (List Int)) : Bool := L.all (fun r => !r.isEmpty) && orOk m L.flatten
def gAl (m : Int) : Nat → List (List Int) → Bool
  | _, [] => true
  | n, r :: L => decide (1 ≤ (r.length : Int) ∧ (r.length : Int) ≤ m - n) && gAl m (n + r.length) L
theorem gAl_iff {m : Int} : ∀ {L : List (List Int)} {n : Nat}, (n : Int) ≤ m → (gAl m n L = true ↔ L.all (fun r => !r.isEmpty) = true ∧ ((n + L.flatten.length : Nat) : Int) ≤ m)
  | [], n, h => by simp [gAl, h]
  | r :: L, n, h => by
    simp only [gAl, Bool.and_eq_true, decide_eq_true_eq, List.all_cons, List.flatten_cons, List.length_append]
    by_cases hr : (r.length : Int) ≤ m - n
    · rw [gAl_iff (L := L) (n := n + r.length) (by omega)]
      cases r with
      | nil => simp
      | cons a r =>
        simp only [List.isEmpty_cons, Bool.not_false, true_and, List.length_cons] at *
        constructor
        · rintro ⟨_, h1, h2⟩; exact ⟨h1, by omega⟩
        · rintro ⟨h1, h2⟩; exact ⟨⟨by omega, by omega⟩, h1, by omega⟩
    · constructor
      · rintro ⟨⟨_, h2⟩, _⟩; exact absurd h2 hr
      · rintro ⟨_, h2⟩; omega
theorem gokB_al {m : Int} (hm : 1 ≤ m ∧ m ≤ 5) (L : List (List Int)) : gokB m L = (gAl m 0 L && orOk m L.flatten) := by
  unfold gokB
  cases h : orOk m L.flatten with
  | false => simp
  | true =>
    have := orOk_len h
    rw [Bool.and_true, Bool.and_true, Bool.eq_iff_iff, gAl_iff (by omega)]
    exact ⟨fun h => ⟨h, by omega⟩, fun h => h.1⟩
def stGk (m : Int) (L : List (List Int)) (acc : List Int) (k : Nat) : LS := ⟨[(0, .i m), (5, .own 2568 acc.length 0 acc.length), (11, .sl 0 (L.map eR)), (12, .i L.length), (13, .i k)], [(2568, acc.map .i)]⟩
theorem l_impl_GroupsOk {m : Int} (hm : 1 ≤ m ∧ m ≤ 5) (A : List (List Int)) (hb : (A.length : Int) < 1099511627776) : ∀ (L : List (List Int)) (k : Nat) (acc : List Int), (acc.length : Int) ≤ m → k + L.length = A.length → A.drop k = L →
    ex lf F_impl_GroupsOk_W0 (stGk m A acc k) = if gAl m acc.length L = true then some (.exit 0, stGk m A (acc ++ L.flatten) A.length) else some (.ret, ⟨[(4, .b false)], []⟩)
  | [], k, acc, ha, hk, hd => by
    have e : k = A.length := by simpa using hk
    subst e
    rw [w_impl_GroupsOk_0]
    simp [stGk, F_impl_GroupsOk_L0, gAl]
  | r :: L, k, acc, ha, hk, hd => by
    simp only [List.length_cons] at hk
    have hlt : (k : Int) < A.length := by omega
    have hd2 : A.drop (k + 1) = L := by rw [← List.drop_drop, hd]; rfl
    have hat : A[k]? = some r := by
      have := congrArg (fun l => l[0]?) hd
      simpa using this
    have at1 : atI (A.map eR) (k : Int) = some (.sl 0 (r.map .i)) := by
      simp only [atI, if_pos (Int.natCast_nonneg k)]
      show (A.map eR)[(k : Int).toNat]? = _
      rw [Int.toNat_natCast, List.getElem?_map, hat]; rfl
    have w1 : wr ((k : Int) + 1) = ((k + 1 : Nat) : Int) := by rw [wr_id (by omega) (by omega)]; omega
    have w2 : wr (m - acc.length) = m - acc.length := wr_id (by omega) (by omega)
    have W := c_impl_isWithin (r.length : Int) 1 (m - acc.length)
    rw [w_impl_GroupsOk_0]
    by_cases hr : 1 ≤ (r.length : Int) ∧ (r.length : Int) ≤ m - acc.length
    · rw [decide_eq_true hr] at W
      have ih := l_impl_GroupsOk hm A hb L (k + 1) (acc ++ r) (by simp; omega) (by omega) hd2
      have e : gAl m acc.length (r :: L) = gAl m (acc ++ r).length L := by simp only [gAl]; rw [decide_eq_true hr]; simp
      rw [e, List.flatten_cons, ← List.append_assoc, ← ih]
      have c1 : acc.length + r.length ≤ bound := by unfold bound; omega
      unfold stGk
      simp [F_impl_GroupsOk_L0, hlt, at1, w1, w2, W, c1, -Int.natCast_add]
    · rw [decide_eq_false hr] at W
      have e : gAl m acc.length (r :: L) = false := by simp only [gAl]; rw [decide_eq_false hr]; rfl
      rw [e]
      unfold stGk
      simp [F_impl_GroupsOk_L0, hlt, at1, w1, w2, W, -Int.natCast_add]
theorem c_impl_GroupsOk (m : Int) (L : List (List Int)) (hb : (L.length : Int) < 1099511627776) : call lf n_impl_GroupsOk [.i m, .sl 0 (L.map eR)] = some (.b (gokB m L), []) := by
  rw [call_k lf n_impl_GroupsOk _ (F := F_impl_GroupsOk) rfl rfl]
  cases h1 : nOk m with
  | false =>
    have e : gokB m L = false := by unfold gokB orOk; simp [h1]
    simp [F_impl_GroupsOk, c_impl_manyOk, h1, e]
  | true =>
    have hm := nOk_iff.1 h1
    rw [gokB_al hm]
    have I := l_impl_GroupsOk hm L hb L 0 [] (by simp; omega) (by simp) rfl
    unfold stGk at I
    simp only [List.length_nil, List.map_nil, Int.natCast_zero, List.nil_append] at I
    cases h2 : gAl m 0 L with
    | false =>
      rw [h2] at I
      simp at I
      simp [F_impl_GroupsOk, c_impl_manyOk, h1, I]
    | true =>
      rw [h2, if_pos rfl] at I
      have l5 := ((gAl_iff (n := 0) (by omega)).1 h2).2
      have C := c_impl_OrderOk m L.flatten (by omega)
      generalize L.flatten = M at *
      have tk : List.take M.length (M.map DV.i) = M.map .i := List.take_of_length_le (by simp)
      simp [F_impl_GroupsOk, c_impl_manyOk, h1, I, C, tk]
end
section
attribute [-simp] DV.cells
attribute [local simp] sliceD cells_st cells_sl cells_i cells_y cells_b cells_s cells_w
attribute [local simp] lend_eR al_eR
theorem at_eR {A : List (List Int)} {k : Nat} {r : List Int} (h : A[k]? = some r) : atI (A.map eR) (k : Int) = some (.sl 0 (r.map .i)) := by
  simp only [atI, if_pos (Int.natCast_nonneg k)]
  show (A.map eR)[(k : Int).toNat]? = _
  rw [Int.toNat_natCast, List.getElem?_map, h]; rfl
theorem atI_int {r : List Int} {j : Nat} {a : Int} (h : r[j]? = some a) : atI (r.map DV.i) (j : Int) = some (.i a) := by
  simp only [atI, if_pos (Int.natCast_nonneg j)]
  show (r.map DV.i)[(j : Int).toNat]? = _
  rw [Int.toNat_natCast, List.getElem?_map, h]; rfl
theorem drop_cons {α : Type} {A : List α} {k : Nat} {r : α} {L : List α} (h : A.drop k = r :: L) : k < A.length ∧ A[k]? = some r ∧ A.drop (k + 1) = L := by
  have hk : k < A.length := by
    rcases Nat.lt_or_ge k A.length with h1 | h1
    · exact h1
    · rw [List.drop_eq_nil_of_le h1] at h; cases h
  refine ⟨hk, ?_, by rw [← List.drop_drop, h]; rfl⟩
  have := congrArg (fun l => l[0]?) h
  simpa using this
theorem wr_succ {k : Nat} (h : (k : Int) < 1099511627776) : wr ((k : Int) + 1) = ((k + 1 : Nat) : Int) := by rw [wr_id (by omega) (by omega)]; omega
def stGi (m : Int) (A : List (List Int)) (so n k j : Nat) : LS := ⟨[(0, .i m), (1, .sl 0 (A.map eR)), (5, .i so), (6, .i n), (7, .i k), (8, .i j)], []⟩
theorem gs_inner (m : Int) (A : List (List Int)) {k : Nat} {R : List Int} (hk : A[k]? = some R) (hkl : (k : Int) < A.length) : ∀ (r : List Int) (j so n : Nat), so < 32 → ((n + r.length : Nat) : Int) < 1099511627776 → (R.length : Int) < 1099511627776 → R.drop j = r → j + r.length = R.length →
    ex lf F_spec_GroupsOk_W1 (stGi m A so n k j) = if orS (min m 5) so r = true then some (.exit 2, stGi m A (setO so r) (n + r.length) k R.length) else some (.ret, ⟨[(4, .b false)], []⟩) := by
  intro r
  induction r with
  | nil =>
    intro j so n hs hn hR hd hj
    have at1 := at_eR hk
    have e : j = R.length := by simpa using hj
    subst e
    rw [w_spec_GroupsOk_1]
    simp [stGi, F_spec_GroupsOk_L1, orS, setO, at1, hkl]
  | cons a r ih0 =>
    intro j so n hs hn hR hd hj
    have at1 := at_eR hk
    obtain ⟨j1, j2, j3⟩ := drop_cons hd
    have j1' : (j : Int) < R.length := by omega
    have at2 := atI_int j2
    simp only [List.length_cons] at hn hj
    have w1 := wr_succ (k := j) (by omega)
    have w2 := wr_succ (k := n) (by omega)
    rw [w_spec_GroupsOk_1]
    by_cases a0 : a < 0
    · have e2 : decide (0 ≤ a ∧ a < min m 5) = false := decide_eq_false (by omega)
      simp only [orS, e2, Bool.false_and]
      simp [stGi, F_spec_GroupsOk_L1, at1, at2, hkl, j1, j1', a0]
    · by_cases a1 : m ≤ a
      · have e2 : decide (0 ≤ a ∧ a < min m 5) = false := decide_eq_false (by omega)
        simp only [orS, e2, Bool.false_and]
        simp [stGi, F_spec_GroupsOk_L1, at1, at2, hkl, j1, j1', a0, a1]
      · by_cases a5 : 5 ≤ a
        · have e2 : decide (0 ≤ a ∧ a < min m 5) = false := decide_eq_false (by omega)
          simp only [orS, e2, Bool.false_and]
          simp [stGi, F_spec_GroupsOk_L1, at1, at2, hkl, j1, j1', a0, a1, a5]
        · have e2 : decide (0 ≤ a ∧ a < min m 5) = true := decide_eq_true (by omega)
          have o := or_i (so := so) (by omega) (by omega : 0 ≤ a) (by omega : a < 5)
          have bb := bit_bI (a := so) (s := a.toNat) (by omega)
          rw [Int.toNat_of_nonneg (by omega)] at bb
          have ih := ih0 (j + 1) (so ||| 2 ^ a.toNat) (n + 1) (or_lt2 (m := 5) hs (by omega)) (by omega) hR j3 (by omega)
          rw [show n + 1 + r.length = n + (r.length + 1) by omega] at ih
          simp only [orS, e2, Bool.true_and, setO, List.length_cons]
          unfold stGi at *
          cases hb : so.testBit a.toNat with
          | true =>
            rw [hb] at bb
            have q : (bI true == 1) = true := rfl
            simp [F_spec_GroupsOk_L1, at1, at2, hkl, j1, j1', a0, a1, a5, bb, q]
          | false =>
            rw [hb] at bb
            have q : (bI false == 1) = false := rfl
            simp [F_spec_GroupsOk_L1, at1, at2, hkl, j1, j1', a0, a1, a5, bb, q, o, w1, w2, ih, -Int.natCast_add]
def gSp (m : Int) : Nat → List (List Int) → Bool
  | _, [] => true
  | so, r :: L => !r.isEmpty && (orS m so r && gSp m (setO so r) L)
theorem gSp_eq (m : Int) : ∀ (L : List (List Int)) (so : Nat), gSp m so L = (L.all (fun r => !r.isEmpty) && orS m so L.flatten)
  | [], so => by simp [gSp, orS]
  | r :: L, so => by
    simp only [gSp, List.all_cons, List.flatten_cons, orS_app, gSp_eq m L]
    cases r.isEmpty <;> cases orS m so r <;> simp
theorem setO32 {m : Int} : ∀ {os : List Int} {so : Nat}, so < 32 → orS (min m 5) so os = true → setO so os < 32
  | [], _, h, _ => h
  | a :: r, so, h, ho => by
    obtain ⟨h1, h2, h3⟩ := orS_cons.1 ho
    exact setO32 (os := r) (or_lt2 (m := 5) h (by omega)) h3
def stGo (m : Int) (A : List (List Int)) (so n k : Nat) : LS := ⟨[(0, .i m), (1, .sl 0 (A.map eR)), (5, .i so), (6, .i n), (7, .i k)], []⟩
theorem gs_outer (m : Int) (A : List (List Int)) (hb : (A.length : Int) < 1099511627776) : ∀ (L : List (List Int)) (k so n : Nat), so < 32 → ((n + L.flatten.length : Nat) : Int) < 1099511627776 → A.drop k = L → k + L.length = A.length →
    ex lf F_spec_GroupsOk_W0 (stGo m A so n k) = if gSp (min m 5) so L = true then some (.exit 0, stGo m A (setO so L.flatten) (n + L.flatten.length) A.length) else some (.ret, ⟨[(4, .b false)], []⟩) := by
  intro L
  induction L with
  | nil =>
    intro k so n hs hn hd hk
    have e : k = A.length := by simpa using hk
    subst e
    rw [w_spec_GroupsOk_0]
    simp [stGo, F_spec_GroupsOk_L0, gSp, setO]
  | cons R L ih0 =>
    intro k so n hs hn hd hk
    obtain ⟨k1, k2, k3⟩ := drop_cons hd
    have k1' : (k : Int) < A.length := by omega
    have at1 := at_eR k2
    simp only [List.flatten_cons, List.length_append] at hn
    simp only [List.length_cons] at hk
    have w1 := wr_succ (k := k) (by omega)
    rw [w_spec_GroupsOk_0]
    by_cases h0 : R = []
    · subst h0
      simp only [gSp]
      simp [stGo, F_spec_GroupsOk_L0, k1, k1', at1]
    · have I := gs_inner m A k2 k1' R 0 so n hs (by omega) (by omega) rfl (by simp)
      have e0 : R.isEmpty = false := by simpa using h0
      have r0 : ((R.length : Int) == 0) = false := by have := List.length_pos_iff.2 h0; exact beq_false_of_ne (by omega)
      simp only [gSp, e0, Bool.not_false, Bool.true_and]
      unfold stGi at I
      unfold stGo at *
      simp only [Int.natCast_zero] at I
      cases h1 : orS (min m 5) so R with
      | false =>
        rw [h1] at I
        simp at I
        simp [F_spec_GroupsOk_L0, k1, k1', at1, r0, I]
      | true =>
        rw [h1, if_pos rfl] at I
        have ih := ih0 (k + 1) (setO so R) (n + R.length) (setO32 hs h1) (by omega) k3 (by omega)
        rw [← Nat.add_assoc, List.flatten_cons, setO_app, List.length_append, ← Nat.add_assoc] at *
        simp only [Bool.true_and]
        simp [F_spec_GroupsOk_L0, k1, k1', at1, r0, I, w1, ih, -Int.natCast_add, -List.length_flatten]
theorem c_spec_GroupsOk (m : Int) (L : List (List Int)) (hb : (L.length : Int) < 1099511627776) (hf : (L.flatten.length : Int) < 1099511627776) : call lf n_spec_GroupsOk [.i m, .sl 0 (L.map eR)] = some (.b (gokB m L), []) := by
  rw [call_k lf n_spec_GroupsOk _ (F := F_spec_GroupsOk) rfl rfl]
  have I := gs_outer m L hb L 0 0 0 (by omega) (by omega) rfl (by simp)
  unfold stGo at I
  simp only [Int.natCast_zero, Nat.zero_add] at I
  have e1 : nOk m = decide (1 ≤ m ∧ m ≤ 5) := rfl
  rw [gSp_eq] at I
  unfold gokB orOk
  rw [e1]
  by_cases hm : 1 ≤ m ∧ m ≤ 5
  · have h1 : decide (1 ≤ m ∧ m ≤ 5) = true := decide_eq_true hm
    have e5 : min m 5 = m := by omega
    rw [e5] at I
    rw [h1]
    cases h3 : (L.all (fun r => !r.isEmpty) && orS m 0 L.flatten) with
    | false =>
      rw [h3] at I
      simp at I
      have e : (L.all (fun r => !r.isEmpty) && (true && decide ((L.flatten.length : Int) = m) && orS m 0 L.flatten)) = false := by
        rw [Bool.true_and, ← Bool.and_assoc, Bool.and_right_comm, h3]; rfl
      rw [e]
      simp [F_spec_GroupsOk, I]
    | true =>
      rw [h3, if_pos rfl] at I
      rw [Bool.and_eq_true] at h3
      rw [h3.1, h3.2]
      generalize L.flatten.length = z at *
      simp [F_spec_GroupsOk, I, c_spec_l1In, h1, Bool.beq_eq_decide_eq]
  · have h1 : decide (1 ≤ m ∧ m ≤ 5) = false := decide_eq_false hm
    rw [h1]
    cases h3 : (L.all (fun r => !r.isEmpty) && orS (min m 5) 0 L.flatten) with
    | false =>
      rw [h3] at I
      simp at I
      simp [F_spec_GroupsOk, I]
    | true =>
      rw [h3, if_pos rfl] at I
      generalize L.flatten.length = z at *
      simp [F_spec_GroupsOk, I, c_spec_l1In, h1]
end
section
attribute [-simp] DV.cells
attribute [local simp] sliceD cells_st cells_sl cells_i cells_y cells_b cells_s cells_w
attribute [local simp] lend_eR al_eR
theorem c_szIntS (r : List Int) (left : Int) (hl : 0 ≤ left ∧ left ≤ 1048576) (hr : r.length ≤ Go.maxLen) : call lf n_laws_szIntS [.sl 0 (r.map .i), .i left] = some (.i (if (r.length : Int) ≤ left then left - r.length else -1), []) := by
  rw [call_k lf n_laws_szIntS _ (F := F_laws_szIntS) rfl rfl]
  have hm : Go.maxLen = 9223372036854775807 := rfl
  have w1 : wr (left - r.length) = left - r.length := wr_id (by omega) (by omega)
  by_cases h : (r.length : Int) ≤ left
  · have n0 : ¬ left - (r.length : Int) < 0 := by omega
    simp [F_laws_szIntS, w1, h, n0]
  · have n0 : left - (r.length : Int) < 0 := by omega
    simp [F_laws_szIntS, w1, h, n0]
def szL (left : Int) : List (List Int) → Int
  | [] => left
  | r :: L => if (r.length : Int) ≤ left then szL (left - r.length) L else -1
theorem szL_ge : ∀ {L : List (List Int)} {left : Int}, 0 ≤ szL left L → (L.flatten.length : Int) ≤ left
  | [], left, h => by simpa [szL] using h
  | r :: L, left, h => by
    simp only [szL] at h
    split at h
    · have := szL_ge h
      simp only [List.flatten_cons, List.length_append]; omega
    · omega
def stSz (A : List (List Int)) (left : Int) (k : Nat) : LS := ⟨[(0, .sl 0 (A.map eR)), (1, .i left), (5, .i k)], []⟩
theorem sz_loop (A : List (List Int)) (hA : A.length ≤ 1048576) : ∀ (L : List (List Int)) (k : Nat) (left : Int), (∀ r ∈ L, r.length ≤ Go.maxLen) → 0 ≤ left ∧ left ≤ 1048576 → A.drop k = L → k + L.length = A.length →
    (szL left L < 0 → ex lf F_laws_szIntSS_W0 (stSz A left k) = some (.ret, ⟨[(4, .i (-1))], []⟩)) ∧ (0 ≤ szL left L → ex lf F_laws_szIntSS_W0 (stSz A left k) = some (.exit 0, stSz A (szL left L) A.length)) := by
  intro L
  induction L with
  | nil =>
    intro k left hr hl hd hk
    have e : k = A.length := by simpa using hk
    subst e
    refine ⟨fun h => by simp only [szL] at h; omega, fun h => ?_⟩
    rw [w_laws_szIntSS_0]
    simp [stSz, F_laws_szIntSS_L0, szL]
  | cons r L ih0 =>
    intro k left hr hl hd hk
    obtain ⟨k1, k2, k3⟩ := drop_cons hd
    have k1' : (k : Int) < A.length := by omega
    have at1 := at_eR k2
    simp only [List.length_cons] at hk
    have w1 := wr_succ (k := k) (by omega)
    have C := c_szIntS r left hl (hr r (by simp))
    simp only [szL]
    unfold stSz at *
    by_cases h : (r.length : Int) ≤ left
    · have ih := ih0 (k + 1) (left - r.length) (fun x hx => hr x (by simp [hx])) (by omega) k3 (by omega)
      rw [if_pos h] at C ⊢
      have n0 : ¬ left - (r.length : Int) < 0 := by omega
      refine ⟨fun hs => ?_, fun hs => ?_⟩
      · rw [w_laws_szIntSS_0]
        have ih := ih.1 hs
        simp [F_laws_szIntSS_L0, k1, k1', at1, C, n0, w1, ih, -Int.natCast_add]
      · rw [w_laws_szIntSS_0]
        have ih := ih.2 hs
        simp [F_laws_szIntSS_L0, k1, k1', at1, C, n0, w1, ih, -Int.natCast_add]
    · rw [if_neg h] at C ⊢
      refine ⟨fun hs => ?_, fun hs => by omega⟩
      rw [w_laws_szIntSS_0]
      simp [F_laws_szIntSS_L0, k1, k1', at1, C]
/-- either it is too large, or this is what it says -/
theorem c_szIntSS (L : List (List Int)) (left : Int) (hl : 0 ≤ left ∧ left ≤ 1048576) (hL : L.length ≤ Go.maxLen) (hr : ∀ r ∈ L, r.length ≤ Go.maxLen) :
    call lf n_laws_szIntSS [.sl 0 (L.map eR), .i left] = some (.i (-1), []) ∨ ∃ z : Int, 0 ≤ z ∧ z ≤ left ∧ (L.length : Int) ≤ left ∧ (L.flatten.length : Int) ≤ left ∧ call lf n_laws_szIntSS [.sl 0 (L.map eR), .i left] = some (.i z, []) := by
  have hm : Go.maxLen = 9223372036854775807 := rfl
  have w1 : wr (left - L.length) = left - L.length := wr_id (by omega) (by omega)
  rw [call_k lf n_laws_szIntSS _ (F := F_laws_szIntSS) rfl rfl]
  by_cases h : (L.length : Int) ≤ left
  · have I := sz_loop L (by omega) L 0 (left - L.length) hr (by omega) rfl (by simp)
    unfold stSz at I
    simp only [Int.natCast_zero] at I
    have n0 : ¬ left - (L.length : Int) < 0 := by omega
    by_cases hs : 0 ≤ szL (left - L.length) L
    · have I := I.2 hs
      have g := szL_ge hs
      have u : ∀ (L : List (List Int)) (a : Int), szL a L ≤ a ∨ szL a L = -1 := by
        intro L
        induction L with
        | nil => intro a; left; simp [szL]
        | cons r L ih =>
          intro a
          simp only [szL]
          split
          · rcases ih (a - r.length) with h | h
            · left; omega
            · right; exact h
          · right; rfl
      refine .inr ⟨szL (left - L.length) L, hs, ?_, h, by omega, ?_⟩
      · rcases u L (left - L.length) with h | h <;> omega
      · simp [F_laws_szIntSS, w1, n0, I]
    · have I := I.1 (by omega)
      left
      simp [F_laws_szIntSS, w1, n0, I]
  · left
    have n0 : left - (L.length : Int) < 0 := by omega
    simp [F_laws_szIntSS, w1, n0]
/-- rows that are new -/
def eN (r : List Int) : DV := .sl 1 (r.map .i)
theorem lend_eN (L : List (List Int)) : lendL (L.map eN) = L.map eR := by
  rw [lendL_map, List.map_map]
  apply List.map_congr_left
  intro r _
  simp [eN, eR, DV.lend]
theorem adopt_eN (o : Bool) (L : List (List Int)) : adoptL o (L.map eN) = L.map eN := by
  rw [adoptL_map, List.map_map]
  apply List.map_congr_left
  intro r _
  simp [eN, DV.adopt, adoptP]
theorem new_eN (L : List (List Int)) : allNewL (L.map eN) = true := by
  rw [allNewL_all, List.all_map, List.all_eq_true]
  intro r _
  simp [eN, DV.allNew, newP]
attribute [local simp] lend_eN adopt_eN new_eN
def cN (A : List (List Int)) (i : Nat) : List DV := (A.take i).map eN ++ List.replicate (A.length - i) (.sl 1 [])
theorem cN_len {A : List (List Int)} {i : Nat} (hi : i ≤ A.length) : (cN A i).length = A.length := by simp [cN]; omega
theorem cN_set {A : List (List Int)} {i : Nat} {r : List Int} (hi : i < A.length) (h : A[i]? = some r) : (cN A i).set i (.sl 1 (r.map .i)) = cN A (i + 1) := by
  have e : ((A.take i).map eN).length = i := by simp; omega
  unfold cN
  rw [List.set_append_right _ _ (by omega), e, Nat.sub_self, List.take_add_one, h, show A.length - i = (A.length - (i + 1)) + 1 by omega, List.replicate_succ, List.set_cons_zero, Option.toList_some, List.map_append, List.append_assoc]
  rfl
theorem cN_get {A : List (List Int)} {i : Nat} (hi : i < A.length) : atN (cN A i) i = some (.sl 1 []) := by
  show (cN A i)[i]? = _
  have : ((A.take i).map eN).length = i := by simp; omega
  unfold cN
  rw [List.getElem?_append_right (by omega), this, Nat.sub_self, List.getElem?_replicate]
  simp; omega
theorem cN_zero (A : List (List Int)) : cN A 0 = List.replicate A.length (.sl 1 []) := by simp [cN]
theorem cN_all (A : List (List Int)) : cN A A.length = A.map eN := by simp [cN]
theorem c_toIntSS (A : List (List Int)) (hA : (A.length : Int) ≤ 1048576) (hr : ∀ r ∈ A, (r.length : Int) ≤ 1048576) : call lf n_laws_toIntSS [.sl 0 (A.map eR)] = some (.fr 1 (A.map eN), []) := by
  rw [call_k lf n_laws_toIntSS _ (F := F_laws_toIntSS) rfl rfl]
  have L : ex lf F_laws_toIntSS_W0 ⟨[(0, .sl 0 (A.map eR)), (3, .own 3592 A.length 0 A.length), (4, .i 0)], [(3592, cN A 0)]⟩ =
      some (.exit 0, ⟨[(0, .sl 0 (A.map eR)), (3, .own 3592 A.length 0 A.length), (4, .i A.length)], [(3592, cN A A.length)]⟩) := by
    refine loop_count A.length (fun i => ⟨[(0, .sl 0 (A.map eR)), (3, .own 3592 A.length 0 A.length), (4, .i i)], [(3592, cN A i)]⟩) (fun i hi => ?_) ?_ (by simp)
    · have hi' : (i : Int) < A.length := by omega
      have k2 : A[i]? = some A[i] := List.getElem?_eq_getElem hi
      have at1 := at_eR k2
      have T := c_toIntS A[i] (hr _ (List.getElem_mem hi))
      have w1 : wr ((i : Int) + 1) = (i : Int) + 1 := wr_id (by omega) (by omega)
      have c1 := cN_len (A := A) (i := i) (by omega)
      have c2 := cN_get hi
      have c3 := cN_set hi k2
      have tk : List.take A[i].length (A[i].map DV.i) = A[i].map .i := List.take_of_length_le (by simp)
      generalize A[i] = r at *
      simp [F_laws_toIntSS_L0, hi, hi', at1, T, w1, c1, c2, c3, tk]
    · simp [F_laws_toIntSS_L0]
  have b1 : (A.length : Int) ≤ bound := by unfold bound; omega
  rw [cN_zero, cN_all] at L
  simp [F_laws_toIntSS, b1, L]
theorem c_eqIntSS_self (A : List (List Int)) (hA : (A.length : Int) ≤ 1048576) (hr : ∀ r ∈ A, (r.length : Int) ≤ 1048576) : call lf n_laws_eqIntSS [.sl 0 (A.map eR), .sl 0 (A.map eR)] = some (.b true, []) := by
  rw [call_k lf n_laws_eqIntSS _ (F := F_laws_eqIntSS) rfl rfl]
  have L : ex lf F_laws_eqIntSS_W0 ⟨[(0, .sl 0 (A.map eR)), (1, .sl 0 (A.map eR)), (5, .i 0)], []⟩ = some (.exit 0, ⟨[(0, .sl 0 (A.map eR)), (1, .sl 0 (A.map eR)), (5, .i A.length)], []⟩) := by
    refine loop_count A.length (fun i => ⟨[(0, .sl 0 (A.map eR)), (1, .sl 0 (A.map eR)), (5, .i i)], []⟩) (fun i hi => ?_) ?_ (by simp)
    · have hi' : (i : Int) < A.length := by omega
      have k2 : A[i]? = some A[i] := List.getElem?_eq_getElem hi
      have at1 := at_eR k2
      have T := c_eqIntS_self A[i] (hr _ (List.getElem_mem hi))
      have w1 : wr ((i : Int) + 1) = (i : Int) + 1 := wr_id (by omega) (by omega)
      generalize A[i] = r at *
      simp [F_laws_eqIntSS_L0, hi, hi', at1, T, w1]
    · simp [F_laws_eqIntSS_L0]
  simp [F_laws_eqIntSS, L]
end
section
structure CS where
  c : Nat → Int
  p : Nat → Int
  q : Nat → Int
  lA : Nat → Nat → Bool
  lB : Nat → Nat → Bool
  ch : List Nat → Nat → Nat
def rk (l : Nat → Nat → Bool) (S : List Nat) (i : Nat) : Nat := S.countP fun x => l x i
/-- what the rule costs -/
def vR (C : CS) : Nat → List Nat → Nat → Int
  | 0, _, _ => 0
  | f + 1, S, k => if k = 0 ∨ S.length < k then 0 else 6 ^ S.length * C.c (C.ch S k) + C.p (C.ch S k) * vR C f (S.erase (C.ch S k)) (k - 1) + C.q (C.ch S k) * vR C f (S.erase (C.ch S k)) k
def CS.V (C : CS) (S : List Nat) (k : Nat) : Int := vR C S.length S k
def CS.W (C : CS) (S : List Nat) (k i : Nat) : Int := 6 ^ S.length * C.c i + C.p i * C.V (S.erase i) (k - 1) + C.q i * C.V (S.erase i) k
end
section
/-- tests, the two orders by ratios, and the least test of both -/
def tltA (us : List T) (a b : Nat) : Bool := decide (cA us a * pA us b < cA us b * pA us a ∨ cA us b * pA us a = cA us a * pA us b ∧ a < b)
def tltB (us : List T) (a b : Nat) : Bool := decide (cA us a * (6 - pA us b) < cA us b * (6 - pA us a) ∨ cA us b * (6 - pA us a) = cA us a * (6 - pA us b) ∧ a < b)
def bothL (us : List T) (S : List Nat) (k : Nat) : List Nat := S.filter fun i => decide (rk (tltA us) S i < k) && decide (rk (tltB us) S i + k ≤ S.length)
def cs (us : List T) : CS := ⟨cA us, pA us, fun i => 6 - pA us i, tltA us, tltB us, fun S k => (bothL us S k).headD 0⟩
end
section
/-- what is not known, and how many yes -/
def unk (m : Nat) (ks : List Int) : List Nat := (List.range m).filter fun k => ks[k]? == some (-1)
end
section
def gS : List I3 → Int
  | [] => 1
  | x :: r => (x.2.2 - x.2.1) * gS r
theorem gD_app : ∀ p q : List I3, gD (p ++ q) = gD p * gM q + gS p * gD q
  | [], q => by simp [gD, gS]
  | x :: p, q => by
    simp only [List.cons_append, gD, gS]
    rw [gD_app p q, gM_app]
    grind
theorem gS_app : ∀ p q : List I3, gS (p ++ q) = gS p * gS q
  | [], q => by simp [gS]
  | x :: p, q => by simp only [List.cons_append, gS]; rw [gS_app p q, Int.mul_assoc]
theorem gS_perm {p q : List I3} (h : p.Perm q) : gS p = gS q := by
  induction h with
  | nil => rfl
  | cons x _ ih => simp only [gS]; rw [ih]
  | swap x y l => simp only [gS]; rw [Int.mul_left_comm]
  | trans _ _ a b => exact a.trans b
theorem gS_bd : ∀ {l : List I3}, (∀ x ∈ l, iOk x) → 0 ≤ gS l ∧ gS l ≤ gM l
  | [], _ => by simp [gS, gM]
  | x :: r, h => by
    obtain ⟨h1, h2, h3⟩ := h x List.mem_cons_self
    have hr : ∀ y ∈ r, iOk y := fun y hy => h y (List.mem_cons_of_mem _ hy)
    obtain ⟨a, b⟩ := gS_bd hr
    have c := gM_pos hr
    simp only [gS, gM]
    refine ⟨Int.mul_nonneg (by omega) a, ?_⟩
    have k1 := Int.mul_le_mul_of_nonneg_right (show x.2.2 - x.2.1 ≤ x.2.2 by omega) a
    have k2 := Int.mul_le_mul_of_nonneg_left b (show 0 ≤ x.2.2 by omega)
    omega
/-- the parts in which a row ends -/
def gE (l : List I3) : Int := gM l - gS l
theorem gE_pos {l : List I3} (h : ∀ x ∈ l, iOk x) (hne : l ≠ []) : 0 < gE l := by
  cases l with
  | nil => exact absurd rfl hne
  | cons x r =>
    obtain ⟨h1, h2, h3⟩ := h x List.mem_cons_self
    have hr : ∀ y ∈ r, iOk y := fun y hy => h y (List.mem_cons_of_mem _ hy)
    obtain ⟨a, b⟩ := gS_bd hr
    have c := gM_pos hr
    unfold gE
    simp only [gS, gM]
    have k1 := Int.mul_le_mul_of_nonneg_left b (show 0 ≤ x.2.2 - x.2.1 by omega)
    have k2 := Int.mul_pos h2 c
    rw [Int.sub_mul] at k1 ⊢
    rw [Int.sub_mul] at k1
    omega
/-- cost less a ratio (x by y) times the parts that end -/
def gf (x y : Int) (l : List I3) : Int := y * gD l - x * gE l
theorem gf_nil (x y : Int) : gf x y [] = 0 := by simp [gf, gD, gE, gM, gS]
theorem gf_cons (x y : Int) (a : I3) (l : List I3) : gf x y (a :: l) = (y * a.1 - x * a.2.1) * gM l + (a.2.2 - a.2.1) * gf x y l := by
  unfold gf gE
  simp only [gD, gM, gS]
  grind
/-- two rows gone through in turn -/
inductive Sh : List I3 → List I3 → List I3 → Prop
  | nil : Sh [] [] []
  | lft (a b r : List I3) (x : I3) (h : Sh a b r) : Sh (x :: a) b (x :: r)
  | rgt (a b r : List I3) (x : I3) (h : Sh a b r) : Sh a (x :: b) (x :: r)
theorem Sh.perm {a b r : List I3} (h : Sh a b r) : r.Perm (a ++ b) := by
  induction h with
  | nil => exact List.Perm.refl _
  | lft a b r x _ ih => exact ih.cons x
  | rgt a b r x _ ih => exact (ih.cons x).trans List.perm_middle.symm
/-- what is carried along never falls below nothing -/
def Car (x y A s : Int) (l : List I3) : Prop := ∀ P Q, l = P ++ Q → 0 ≤ A * gM P + s * gf x y P
theorem Car.next {x y A s : Int} {a : I3} {l : List I3} (h : Car x y A s (a :: l)) : Car x y (A * a.2.2 + s * (y * a.1 - x * a.2.1)) (s * (a.2.2 - a.2.1)) l := fun P Q e => by
  have := h (a :: P) Q (by rw [e]; rfl)
  rw [gf_cons] at this
  simp only [gM] at this
  grind
theorem Car.head {x y A s : Int} {a : I3} {l : List I3} (h : Car x y A s (a :: l)) : 0 ≤ A * a.2.2 + s * (y * a.1 - x * a.2.1) := by
  have := h [a] l rfl
  rw [gf_cons, gf_nil] at this
  simp only [gM] at this
  grind
theorem sh_algL {A B s t u m v fz fy Mz Mx My sx : Int} (hB : 0 ≤ B) (hs : 0 ≤ s) (hMx : 0 ≤ Mx) (hMy : 0 ≤ My) (hv : v ≤ m)
    (ih : s * v * t * sx * fy - (A * m + s * u) * t * Mz - B * (s * v) * (Mx - sx) * My ≤ s * v * t * fz) :
    s * t * (v * sx) * fy - A * t * (m * Mz) - B * s * (m * Mx - v * sx) * My ≤ s * t * (u * Mz + v * fz) := by
  have k : 0 ≤ B * s * ((m - v) * Mx) * My := Int.mul_nonneg (Int.mul_nonneg (Int.mul_nonneg hB hs) (Int.mul_nonneg (by omega) hMx)) hMy
  grind
theorem sh_algR {A B s t u m v fz fy Mx My sx : Int} (hA : 0 ≤ A) (ht : 0 ≤ t) (hMx : 0 ≤ Mx) (hMy : 0 ≤ My) (hv : v ≤ m)
    (ih : s * (t * v) * sx * fy - A * (t * v) * (Mx * My) - (B * m + t * u) * s * (Mx - sx) * My ≤ s * (t * v) * fz) :
    s * t * sx * (u * My + v * fy) - A * t * (m * (Mx * My)) - B * s * (Mx - sx) * (m * My) ≤ s * t * (u * (Mx * My) + v * fz) := by
  have k : 0 ≤ A * t * ((m - v) * (Mx * My)) := Int.mul_nonneg (Int.mul_nonneg hA ht) (Int.mul_nonneg (by omega) (Int.mul_nonneg hMx hMy))
  grind
theorem sh_car {x y : Int} {X Y Z : List I3} (h : Sh X Y Z) : ∀ {A s B t : Int}, (∀ i ∈ X, iOk i) → (∀ i ∈ Y, iOk i) → 0 ≤ A → 0 ≤ s → 0 ≤ B → 0 ≤ t → Car x y A s X → Car x y B t Y →
    s * t * gS X * gf x y Y - A * t * gM Z - B * s * (gM X - gS X) * gM Y ≤ s * t * gf x y Z := by
  induction h with
  | nil =>
    intro A s B t _ _ hA _ _ ht _ _
    rw [gf_nil]
    simp only [gM, gS]
    have := Int.mul_nonneg hA ht
    grind
  | lft a b r i h ih =>
    intro A s B t hX hY hA hs hB ht cX cY
    obtain ⟨i1, i2, i3⟩ := hX i List.mem_cons_self
    have hX' : ∀ j ∈ a, iOk j := fun j hj => hX j (List.mem_cons_of_mem _ hj)
    have I := ih hX' hY cX.head (Int.mul_nonneg hs (show 0 ≤ i.2.2 - i.2.1 by omega)) hB ht cX.next cY
    rw [gf_cons]
    simp only [gS, gM]
    exact sh_algL hB hs (Int.le_of_lt (gM_pos hX')) (Int.le_of_lt (gM_pos hY)) (by omega) I
  | rgt a b r i h ih =>
    intro A s B t hX hY hA hs hB ht cX cY
    obtain ⟨i1, i2, i3⟩ := hY i List.mem_cons_self
    have hY' : ∀ j ∈ b, iOk j := fun j hj => hY j (List.mem_cons_of_mem _ hj)
    have I := ih hX hY' hA hs cY.head (Int.mul_nonneg ht (show 0 ≤ i.2.2 - i.2.1 by omega)) cX cY.next
    have e : gM r = gM a * gM b := by rw [gM_perm h.perm, gM_app]
    rw [gf_cons, gf_cons]
    simp only [gM]
    rw [e] at I ⊢
    exact sh_algR hA ht (Int.le_of_lt (gM_pos hX)) (Int.le_of_lt (gM_pos hY')) (by omega) I
/-- gone through in turn, a row keeps at least what the second one has left -/
theorem sh_f {x y : Int} {X Y Z : List I3} (h : Sh X Y Z) (hX : ∀ i ∈ X, iOk i) (hY : ∀ i ∈ Y, iOk i) (cX : Car x y 0 1 X) (cY : Car x y 0 1 Y) : gS X * gf x y Y ≤ gf x y Z := by
  have := sh_car h hX hY (Int.le_refl 0) (show (0 : Int) ≤ 1 by omega) (Int.le_refl 0) (show (0 : Int) ≤ 1 by omega) cX cY
  simpa using this
end
section
theorem gf_app (x y : Int) (p q : List I3) : gf x y (p ++ q) = gf x y p * gM q + gS p * gf x y q := by
  unfold gf gE
  rw [gD_app, gM_app, gS_app]
  grind
theorem sh_skip {W R V : List I3} (h : Sh W R V) : ∀ Y : List I3, Sh W (Y ++ R) (Y ++ V)
  | [] => h
  | a :: r => .rgt _ _ _ a (sh_skip h r)
/-- the beginning of a row is of beginnings -/
theorem sh_split : ∀ {P Q X Y : List I3}, Sh X Y (P ++ Q) → ∃ X1 X2 Y1 Y2, X = X1 ++ X2 ∧ Y = Y1 ++ Y2 ∧ Sh X1 Y1 P
  | [], Q, X, Y, h => ⟨[], X, [], Y, rfl, rfl, .nil⟩
  | a :: P, Q, X, Y, h => by
    cases h with
    | lft x b r i h =>
      obtain ⟨X1, X2, Y1, Y2, e1, e2, s⟩ := sh_split h
      exact ⟨a :: X1, X2, Y1, Y2, by rw [e1]; rfl, e2, .lft _ _ _ a s⟩
    | rgt x b r i h =>
      obtain ⟨X1, X2, Y1, Y2, e1, e2, s⟩ := sh_split h
      exact ⟨X1, X2, a :: Y1, Y2, e1, by rw [e2]; rfl, .rgt _ _ _ a s⟩
/-- .. cut where the first part of the first one is through -/
theorem sh_cut {c r row : List I3} (h : Sh c r row) : ∀ X W : List I3, c = X ++ W → ∃ Y R Z V, r = Y ++ R ∧ row = Z ++ V ∧ Sh X Y Z ∧ Sh W R V := by
  induction h with
  | nil =>
    intro X W e
    obtain ⟨rfl, rfl⟩ := List.append_eq_nil_iff.1 e.symm
    exact ⟨[], [], [], [], rfl, rfl, .nil, .nil⟩
  | lft a b r i h ih =>
    intro X W e
    cases X with
    | nil =>
      have e' : i :: a = W := e
      subst e'
      exact ⟨[], b, [], i :: r, rfl, rfl, .nil, .lft _ _ _ i h⟩
    | cons z X =>
      rw [List.cons_append] at e
      injection e with e1 e2
      subst e1
      obtain ⟨Y, R, Z, V, q1, q2, q3, q4⟩ := ih X W e2
      exact ⟨Y, R, i :: Z, V, q1, by rw [q2]; rfl, .lft _ _ _ i q3, q4⟩
  | rgt a b r i h ih =>
    intro X W e
    obtain ⟨Y, R, Z, V, q1, q2, q3, q4⟩ := ih X W e
    exact ⟨i :: Y, R, i :: Z, V, by rw [q1]; rfl, by rw [q2]; rfl, .rgt _ _ _ i q3, q4⟩
theorem car_sh {x y : Int} {X Y Z : List I3} (h : Sh X Y Z) (hX : ∀ i ∈ X, iOk i) (hY : ∀ i ∈ Y, iOk i) (cX : Car x y 0 1 X) (cY : Car x y 0 1 Y) : Car x y 0 1 Z := fun P Q e => by
  subst e
  obtain ⟨X1, X2, Y1, Y2, e1, e2, s⟩ := sh_split h
  have okX : ∀ i ∈ X1, iOk i := fun i hi => hX i (by rw [e1]; exact List.mem_append_left _ hi)
  have f := sh_f s okX (fun i hi => hY i (by rw [e2]; exact List.mem_append_left _ hi))
    (fun P' Q' e' => cX P' (Q' ++ X2) (by rw [e1, e', List.append_assoc])) (fun P' Q' e' => cY P' (Q' ++ Y2) (by rw [e2, e', List.append_assoc]))
  have g := cY Y1 Y2 e2
  have k := Int.mul_nonneg (gS_bd okX).1 (show 0 ≤ gf x y Y1 by simpa using g)
  simp
  omega
/-- chains gone through in turn -/
def Il : List (List I3) → List I3 → Prop
  | [], row => row = []
  | c :: L, row => ∃ r, Il L r ∧ Sh c r row
theorem il_perm : ∀ {L : List (List I3)} {row : List I3}, Il L row → row.Perm L.flatten
  | [], row, h => by rw [show row = [] from h]; exact List.Perm.refl _
  | c :: L, row, ⟨r, h1, h2⟩ => by
    rw [List.flatten_cons]
    exact h2.perm.trans ((il_perm h1).append_left c)
theorem car_il {x y : Int} : ∀ {L : List (List I3)} {row : List I3}, Il L row → (∀ c ∈ L, ∀ i ∈ c, iOk i) → (∀ c ∈ L, Car x y 0 1 c) → Car x y 0 1 row
  | [], row, h, _, _ => by
    rw [show row = [] from h]
    intro P Q e
    obtain ⟨rfl, rfl⟩ := List.append_eq_nil_iff.1 e.symm
    rw [gf_nil]
    simp
  | c :: L, row, ⟨r, h1, h2⟩, ho, hc => by
    have hL : ∀ c ∈ L, ∀ i ∈ c, iOk i := fun d hd => ho d (List.mem_cons_of_mem _ hd)
    refine car_sh h2 (ho c List.mem_cons_self) (fun i hi => ?_) (hc c List.mem_cons_self) (car_il h1 hL fun d hd => hc d (List.mem_cons_of_mem _ hd))
    obtain ⟨d, d1, d2⟩ := List.mem_flatten.1 ((il_perm h1).mem_iff.1 hi)
    exact hL d d1 i d2
theorem sh_swap {a r row : List I3} (h : Sh a r row) : ∀ {c r' : List I3}, Sh c r' r → ∃ q, Sh a r' q ∧ Sh c q row := by
  induction h with
  | nil =>
    intro c r' k
    cases k
    exact ⟨[], .nil, .nil⟩
  | lft a b r i h ih =>
    intro c r' k
    obtain ⟨q, q1, q2⟩ := ih k
    exact ⟨i :: q, .lft _ _ _ i q1, .rgt _ _ _ i q2⟩
  | rgt a b r i h ih =>
    intro c r' k
    cases k with
    | lft c' b' x i' k =>
      obtain ⟨q, q1, q2⟩ := ih k
      exact ⟨q, q1, .lft _ _ _ i q2⟩
    | rgt c' b' x i' k =>
      obtain ⟨q, q1, q2⟩ := ih k
      exact ⟨i :: q, .rgt _ _ _ i q1, .rgt _ _ _ i q2⟩
theorem il_mid {c : List I3} {B : List (List I3)} : ∀ {A : List (List I3)} {row : List I3}, Il (A ++ c :: B) row ↔ Il (c :: (A ++ B)) row
  | [], _ => Iff.rfl
  | a :: A, row => by
    constructor
    · rintro ⟨r, h1, h2⟩
      obtain ⟨r', k1, k2⟩ := il_mid.1 h1
      obtain ⟨q, q1, q2⟩ := sh_swap h2 k2
      exact ⟨q, ⟨r', k1, q1⟩, q2⟩
    · rintro ⟨q, ⟨r', k1, q1⟩, q2⟩
      obtain ⟨r, s1, s2⟩ := sh_swap q2 q1
      exact ⟨r, il_mid.2 ⟨r', k1, s1⟩, s2⟩
/-- the first part with the least ratio moved to the front -/
theorem chain_move {X W r row : List I3} (h : Sh (X ++ W) r row) (hX : ∀ i ∈ X, iOk i) (hW : ∀ i ∈ W, iOk i) (hr : ∀ i ∈ r, iOk i) (hne : X ≠ []) (cX : Car (gD X) (gE X) 0 1 X) (cr : Car (gD X) (gE X) 0 1 r) :
    ∃ V, Sh W r V ∧ gD (X ++ V) ≤ gD row ∧ gM (X ++ V) = gM row := by
  obtain ⟨Y, R, Z, V, rfl, rfl, s1, s2⟩ := sh_cut h X W rfl
  refine ⟨Y ++ V, sh_skip s2 Y, ?_, ?_⟩
  · have f := sh_f s1 hX (fun i hi => hr i (List.mem_append_left _ hi)) cX (fun P Q e => cr P (Q ++ R) (by rw [e, List.append_assoc]))
    have ya := gE_pos hX hne
    have e0 : gf (gD X) (gE X) X = 0 := by unfold gf; rw [Int.mul_comm]; omega
    have e1 : gf (gD X) (gE X) (X ++ Y) = gS X * gf (gD X) (gE X) Y := by rw [gf_app, e0]; simp
    rw [← e1] at f
    have pm := s1.perm
    have eE : gE Z = gE (X ++ Y) := by unfold gE; rw [gM_perm pm, gS_perm pm]
    unfold gf at f
    rw [eE] at f
    have le : gD (X ++ Y) ≤ gD Z := Int.le_of_mul_le_mul_left (a := gE X) (by omega) ya
    rw [← List.append_assoc, gD_app (X ++ Y) V, gD_app Z V, gS_perm pm]
    have okV : ∀ i ∈ V, iOk i := fun i hi => (List.mem_append.1 (s2.perm.mem_iff.1 hi)).elim (hW i) fun q => hr i (List.mem_append_right _ q)
    have := Int.mul_le_mul_of_nonneg_right le (Int.le_of_lt (gM_pos okV))
    omega
  · rw [← List.append_assoc, gM_app (X ++ Y) V, gM_app Z V, gM_perm s1.perm]
/-- again and again the first part with the least ratio -/
inductive Gr : List (List I3) → List I3 → Prop
  | nil (L : List (List I3)) (h : ∀ c ∈ L, c = []) : Gr L []
  | step (A B : List (List I3)) (X W row : List I3) (hne : X ≠ []) (hl : ∀ c ∈ A ++ (X ++ W) :: B, ∀ P Q, c = P ++ Q → gD X * gE P ≤ gD P * gE X) (h : Gr (A ++ W :: B) row) : Gr (A ++ (X ++ W) :: B) (X ++ row)
theorem gr_perm {L : List (List I3)} {g : List I3} (h : Gr L g) : g.Perm L.flatten := by
  induction h with
  | nil L h =>
    have : L.flatten = [] := by rw [List.flatten_eq_nil_iff]; exact h
    rw [this]
  | step A B X W row hne hl h ih =>
    rw [List.flatten_append, List.flatten_cons] at ih ⊢
    refine (ih.append_left X).trans ?_
    rw [← List.append_assoc, ← List.append_assoc A.flatten, ← List.append_assoc A.flatten]
    have p : (X ++ A.flatten ++ (W ++ B.flatten)).Perm (A.flatten ++ X ++ (W ++ B.flatten)) := List.perm_append_comm.append_right _
    simpa [List.append_assoc] using p
/-- no order that keeps the chains costs less -/
theorem gr_best {L : List (List I3)} {g : List I3} (h : Gr L g) : (∀ c ∈ L, ∀ i ∈ c, iOk i) → ∀ row, Il L row → gD g ≤ gD row := by
  induction h with
  | nil L h =>
    intro _ row hr
    have p := il_perm hr
    have : L.flatten = [] := by rw [List.flatten_eq_nil_iff]; exact h
    rw [this] at p
    rw [p.eq_nil]
    exact Int.le_refl _
  | step A B X W g hne hl h ih =>
    intro ok row hr
    have okc := ok (X ++ W) (by simp)
    have hX : ∀ i ∈ X, iOk i := fun i hi => okc i (List.mem_append_left _ hi)
    have hW : ∀ i ∈ W, iOk i := fun i hi => okc i (List.mem_append_right _ hi)
    have car : ∀ c ∈ A ++ (X ++ W) :: B, Car (gD X) (gE X) 0 1 c := fun c hc P Q e => by
      have := hl c hc P Q e
      unfold gf
      rw [Int.mul_comm (gE X) (gD P)]
      omega
    obtain ⟨r, r1, r2⟩ := il_mid.1 hr
    have sub : ∀ c ∈ A ++ B, c ∈ A ++ (X ++ W) :: B := fun c hc => by
      rcases List.mem_append.1 hc with q | q
      · exact List.mem_append_left _ q
      · exact List.mem_append_right _ (List.mem_cons_of_mem _ q)
    have okr : ∀ i ∈ r, iOk i := fun i hi => by
      obtain ⟨d, d1, d2⟩ := List.mem_flatten.1 ((il_perm r1).mem_iff.1 hi)
      exact ok d (sub d d1) i d2
    have cr := car_il r1 (fun c hc => ok c (sub c hc)) fun c hc => car c (sub c hc)
    have cX : Car (gD X) (gE X) 0 1 X := fun P Q e => car (X ++ W) (by simp) P (Q ++ W) (by rw [← List.append_assoc, ← e])
    obtain ⟨V, v1, v2, v3⟩ := chain_move r2 hX hW okr hne cX cr
    have hV : Il (A ++ W :: B) V := il_mid.2 ⟨r, r1, v1⟩
    have I := ih (fun c hc i hi => by
      rcases List.mem_append.1 hc with q | q
      · exact ok c (List.mem_append_left _ q) i hi
      · rcases List.mem_cons.1 q with q | q
        · exact hW i (q ▸ hi)
        · exact ok c (List.mem_append_right _ (List.mem_cons_of_mem _ q)) i hi) V hV
    have pm : g.Perm V := (gr_perm h).trans (il_perm hV).symm
    rw [gD_app] at v2 ⊢
    rw [gM_perm pm]
    have := Int.mul_le_mul_of_nonneg_left I (gS_bd hX).1
    omega
end
section
attribute [-simp] DV.cells
attribute [local simp] sliceD cells_st cells_sl cells_i cells_y cells_b cells_s cells_w
attribute [local simp] lend_eR al_eR
def ni (l : List Nat) : List Int := l.map fun k : Nat => (k : Int)
theorem ni_len (l : List Nat) : (ni l).length = l.length := by simp [ni]
theorem ni_toNat (l : List Nat) : (ni l).map Int.toNat = l := by
  unfold ni
  rw [List.map_map]
  conv => rhs; rw [← List.map_id l]
  apply List.map_congr_left
  intro k _
  simp
theorem ni_app (p q : List Nat) : ni (p ++ q) = ni p ++ ni q := by simp [ni]
theorem atT {us : List T} {k : Nat} (hk : k < us.length) : atI (us.map e2) (k : Int) = some (.st [.i (cA us k), .i (pA us k)]) := by
  simp only [atI, if_pos (Int.natCast_nonneg k)]
  show (us.map e2)[(k : Int).toNat]? = _
  rw [Int.toNat_natCast, List.getElem?_map, List.getElem?_eq_getElem hk]
  unfold cA pA
  simp [List.getD, hk, e2]
theorem cA_bd {us : List T} (h : us.all tOk = true) {k : Nat} (hk : k < us.length) : 1 ≤ cA us k ∧ cA us k ≤ 9 := by
  have := tOk_iff.1 (List.all_eq_true.1 h us[k] (List.getElem_mem hk))
  unfold cA
  simp only [List.getD, List.getElem?_eq_getElem hk, Option.getD_some]
  exact this.1
theorem at_ni {L : List Nat} {j k : Nat} (h : L[j]? = some k) : atI ((ni L).map DV.i) (j : Int) = some (.i k) ∧ atN ((ni L).map DV.i) j = some (.i k) := by
  have h' : (ni L)[j]? = some (k : Int) := by unfold ni; rw [List.getElem?_map, h]; rfl
  refine ⟨atI_int h', ?_⟩
  show ((ni L).map DV.i)[j]? = _
  rw [List.getElem?_map, h']; rfl
end
section
/-- rows that keep chains, one by one -/
inductive Wk : List (List Nat) → List Nat → Prop
  | nil (L : List (List Nat)) (h : ∀ c ∈ L, c = []) : Wk L []
  | step (A B : List (List Nat)) (k : Nat) (c row : List Nat) (h : Wk (A ++ c :: B) row) : Wk (A ++ (k :: c) :: B) (k :: row)
theorem wk_perm {L : List (List Nat)} {row : List Nat} (h : Wk L row) : row.Perm L.flatten := by
  induction h with
  | nil L h =>
    have : L.flatten = [] := by rw [List.flatten_eq_nil_iff]; exact h
    rw [this]
  | step A B k c row h ih =>
    rw [List.flatten_append, List.flatten_cons] at ih ⊢
    exact (ih.cons k).trans (by
      have p := (List.perm_middle (a := k) (l₁ := A.flatten) (l₂ := c ++ B.flatten)).symm
      simpa using p)
theorem sh_lefts {L : List (List I3)} : ∀ {row : List I3} {A B : List (List I3)} {x : I3} {c : List I3}, Il (A ++ c :: B) row → Il (A ++ (x :: c) :: B) (x :: row) := by
  intro row A B x c h
  obtain ⟨r, h1, h2⟩ := il_mid.1 h
  exact il_mid.2 ⟨r, h1, .lft _ _ _ x h2⟩
theorem wk_il (f : Nat → I3) {L : List (List Nat)} {row : List Nat} (h : Wk L row) : Il (L.map (List.map f)) (row.map f) := by
  induction h with
  | nil L h =>
    have key : ∀ L : List (List Nat), (∀ c ∈ L, c = []) → Il (L.map (List.map f)) [] := fun L => by
      induction L with
      | nil => intro _; exact rfl
      | cons c L ih =>
        intro h
        have e := h c List.mem_cons_self
        subst e
        exact ⟨[], ih fun d hd => h d (List.mem_cons_of_mem _ hd), .nil⟩
    exact key L h
  | step A B k c row h ih =>
    rw [List.map_append, List.map_cons] at ih ⊢
    exact sh_lefts (L := []) ih
/-- a test in the row of all -/
def itC (us : List T) (k : Nat) : I3 := (6 * cA us k, 6 - pA us k, 6)
theorem itC_M (us : List T) (l : List Nat) : gM (l.map (itC us)) = 6 ^ l.length := by
  induction l with
  | nil => rfl
  | cons a r ih => simp only [List.map_cons, gM, List.length_cons]; rw [ih, Int.pow_succ, Int.mul_comm]; rfl
theorem itC_ok {us : List T} (h : us.all tOk = true) {l : List Nat} (hl : ∀ x ∈ l, x < us.length) : ∀ x ∈ l.map (itC us), iOk x := fun x hx => by
  obtain ⟨k, hk, rfl⟩ := List.mem_map.1 hx
  have := pA_bd h (hl k hk)
  have := cA_nn h k
  unfold itC iOk
  simp only
  omega
theorem rA_gC (us : List T) : ∀ (l : List Int) (on : Int), rA us 0 on l = on * gD ((l.map Int.toNat).map (itC us))
  | [], on => by simp [rA, gD]
  | a :: r, on => by
    simp only [rA, List.map_cons, gD]
    rw [rA_gC us r, itC_M, List.length_map, Int.pow_succ]
    have e1 : (itC us a.toNat).1 = 6 * cA us a.toNat := rfl
    have e2 : (itC us a.toNat).2.2 - (itC us a.toNat).2.1 = 6 - (6 - pA us a.toNat) := rfl
    have e3 : eA us 0 a.toNat = 6 - pA us a.toNat := by unfold eA pA; rfl
    rw [e1, e2, e3]
    grind
theorem rA_row (us : List T) (l : List Nat) : rA us 0 1 (ni l) = gD (l.map (itC us)) := by
  rw [rA_gC, ni_toNat, Int.one_mul]
def mnO (f : Nat → Option Int) : Nat → Int
  | 0 => -1
  | i + 1 => match f i with
    | none => mnO f i
    | some n => if mnO f i < 0 ∨ n < mnO f i then n else mnO f i
theorem mnO_spec {f : Nat → Option Int} (h0 : ∀ i n, f i = some n → 0 ≤ n) : ∀ m, (mnO f m = -1 ∧ ∀ i, i < m → f i = none) ∨ (0 ≤ mnO f m ∧ (∃ i, i < m ∧ f i = some (mnO f m)) ∧ ∀ i n, i < m → f i = some n → mnO f m ≤ n)
  | 0 => .inl ⟨rfl, fun i hi => absurd hi (by omega)⟩
  | m + 1 => by
    have ih := mnO_spec h0 m
    simp only [mnO]
    cases hf : f m with
    | none =>
      simp only
      rcases ih with ⟨a, b⟩ | ⟨a, ⟨i, i1, i2⟩, c⟩
      · refine .inl ⟨a, fun i hi => ?_⟩
        by_cases e : i = m
        · rw [e, hf]
        · exact b i (by omega)
      · refine .inr ⟨a, ⟨i, by omega, i2⟩, fun j n hj hn => ?_⟩
        by_cases e : j = m
        · rw [e, hf] at hn; cases hn
        · exact c j n (by omega) hn
    | some n =>
      simp only
      have n0 := h0 m n hf
      rcases ih with ⟨a, b⟩ | ⟨a, ⟨i, i1, i2⟩, c⟩
      · rw [if_pos (.inl (by omega))]
        refine .inr ⟨n0, ⟨m, by omega, hf⟩, fun j n' hj hn => ?_⟩
        by_cases e : j = m
        · rw [e, hf] at hn; injection hn with hn; omega
        · rw [b j (by omega)] at hn; cases hn
      · by_cases d : n < mnO f m
        · rw [if_pos (.inr d)]
          refine .inr ⟨n0, ⟨m, by omega, hf⟩, fun j n' hj hn => ?_⟩
          by_cases e : j = m
          · rw [e, hf] at hn; injection hn with hn; omega
          · have := c j n' (by omega) hn; omega
        · rw [if_neg (fun q => q.elim (fun q => by omega) d)]
          refine .inr ⟨a, ⟨i, by omega, i2⟩, fun j n' hj hn => ?_⟩
          by_cases e : j = m
          · rw [e, hf] at hn; injection hn with hn; omega
          · exact c j n' (by omega) hn
def sC (us : List T) : Nat → List (List Nat) → List Nat → Int
  | 0, _, p => rA us 0 1 (ni p)
  | f + 1, L, p => mnO (fun i => match L.getD i [] with
    | [] => none
    | k :: c => some (sC us f (L.set i c) (p ++ [k]))) L.length
theorem rA_nn {us : List T} (h : us.all tOk = true) {l : List Nat} (hl : ∀ x ∈ l, x < us.length) : 0 ≤ rA us 0 1 (ni l) := by
  rw [rA_row]
  have ok := itC_ok h hl
  revert ok
  generalize l.map (itC us) = L
  intro ok
  induction L with
  | nil => simp [gD]
  | cons x r ih =>
    obtain ⟨h1, h2, h3⟩ := ok x List.mem_cons_self
    have hr : ∀ y ∈ r, iOk y := fun y hy => ok y (List.mem_cons_of_mem _ hy)
    have := gM_pos hr
    simp only [gD]
    have a := Int.mul_nonneg h1 (Int.le_of_lt this)
    have b := Int.mul_nonneg (show 0 ≤ x.2.2 - x.2.1 by omega) (ih hr)
    omega
theorem set_mid {L : List (List Nat)} {i k : Nat} {c : List Nat} (h : L.getD i [] = k :: c) : ∃ A B, L = A ++ (k :: c) :: B ∧ L.set i c = A ++ c :: B ∧ i < L.length := by
  have hi : i < L.length := by
    by_cases q : i < L.length
    · exact q
    · rw [List.getD_eq_getElem?_getD, List.getElem?_eq_none (by omega)] at h
      cases h
  have e : L[i] = k :: c := by
    rw [List.getD_eq_getElem?_getD, List.getElem?_eq_getElem hi] at h
    exact h
  refine ⟨L.take i, L.drop (i + 1), ?_, ?_, hi⟩
  · rw [← e, List.getElem_cons_drop, List.take_append_drop]
  · rw [List.set_eq_take_append_cons_drop, if_pos hi]
theorem midS_set {A B : List (List Nat)} {k : Nat} {c : List Nat} : (A ++ (k :: c) :: B).getD A.length [] = k :: c ∧ (A ++ (k :: c) :: B).set A.length c = A ++ c :: B := by
  constructor
  · rw [List.getD_eq_getElem?_getD]; simp
  · simp
theorem sC_nn {us : List T} (h : us.all tOk = true) : ∀ (f : Nat) (L : List (List Nat)) (p : List Nat), (∀ x ∈ p, x < us.length) → (∀ c ∈ L, ∀ x ∈ c, x < us.length) → L.flatten.length = f → (0 ≤ sC us f L p ∧ ∃ row, Wk L row ∧ sC us f L p = rA us 0 1 (ni (p ++ row))) ∧ ∀ row, Wk L row → sC us f L p ≤ rA us 0 1 (ni (p ++ row))
  | 0, L, p, hp, hL, hf => by
    have e : L.flatten = [] := List.length_eq_zero_iff.1 hf
    have hn := List.flatten_eq_nil_iff.1 e
    refine ⟨⟨rA_nn h hp, [], .nil L hn, by rw [List.append_nil]; rfl⟩, fun row hr => ?_⟩
    have := wk_perm hr
    rw [e] at this
    rw [this.eq_nil, List.append_nil]
    exact Int.le_refl _
  | f + 1, L, p, hp, hL, hf => by
    have step : ∀ i k c, L.getD i [] = k :: c → (∀ x ∈ p ++ [k], x < us.length) ∧ (∀ d ∈ L.set i c, ∀ x ∈ d, x < us.length) ∧ (L.set i c).flatten.length = f := fun i k c hc => by
      obtain ⟨A, B, e1, e2, hi⟩ := set_mid hc
      have hk : k < us.length := hL (k :: c) (by rw [e1]; simp) k List.mem_cons_self
      refine ⟨fun x hx => ?_, fun d hd x hx => ?_, ?_⟩
      · rcases List.mem_append.1 hx with q | q
        · exact hp x q
        · rw [List.mem_singleton.1 q]; exact hk
      · rw [e2] at hd
        rcases List.mem_append.1 hd with q | q
        · exact hL d (by rw [e1]; exact List.mem_append_left _ q) x hx
        · rcases List.mem_cons.1 q with q | q
          · exact hL (k :: c) (by rw [e1]; simp) x (List.mem_cons_of_mem _ (q ▸ hx))
          · exact hL d (by rw [e1]; exact List.mem_append_right _ (List.mem_cons_of_mem _ q)) x hx
      · rw [e2]
        rw [e1] at hf
        simp at hf ⊢
        omega
    have val : ∀ i n, (match L.getD i [] with | [] => none | k :: c => some (sC us f (L.set i c) (p ++ [k]))) = some n → ∃ k c, L.getD i [] = k :: c ∧ n = sC us f (L.set i c) (p ++ [k]) := fun i n hn => by
      cases hc : L.getD i [] with
      | nil => rw [hc] at hn; cases hn
      | cons k c => rw [hc] at hn; injection hn with hn; exact ⟨k, c, rfl, hn.symm⟩
    have M := mnO_spec (f := fun i => match L.getD i [] with | [] => none | k :: c => some (sC us f (L.set i c) (p ++ [k]))) (fun i n hn => by
      obtain ⟨k, c, hc, rfl⟩ := val i n hn
      obtain ⟨s1, s2, s3⟩ := step i k c hc
      exact (sC_nn h f _ _ s1 s2 s3).1.1) L.length
    simp only [sC]
    rcases M with ⟨_, b⟩ | ⟨a, ⟨i, i1, i2⟩, c⟩
    · exfalso
      have : L.flatten = [] := by
        rw [List.flatten_eq_nil_iff]
        intro d hd
        obtain ⟨i, hi, rfl⟩ := List.getElem_of_mem hd
        have := b i hi
        have e : L.getD i [] = L[i] := by rw [List.getD_eq_getElem?_getD, List.getElem?_eq_getElem hi]; rfl
        rw [e] at this
        cases hc : L[i] with
        | nil => rfl
        | cons k c => rw [hc] at this; cases this
      rw [this] at hf
      cases hf
    · refine ⟨⟨a, ?_⟩, fun row hr => ?_⟩
      · obtain ⟨k, d, hc, e⟩ := val i _ i2
        obtain ⟨s1, s2, s3⟩ := step i k d hc
        obtain ⟨_, row, r1, r2⟩ := (sC_nn h f _ _ s1 s2 s3).1
        obtain ⟨A, B, e1, e2, hi⟩ := set_mid hc
        refine ⟨k :: row, ?_, ?_⟩
        · rw [e1]
          rw [e2] at r1
          exact .step _ _ _ _ _ r1
        · rw [e, r2, List.append_assoc]; rfl
      · cases hr with
        | nil L h =>
          have : L.flatten = [] := by rw [List.flatten_eq_nil_iff]; exact h
          rw [this] at hf; cases hf
        | step A B k d row hr =>
          obtain ⟨g1, g2⟩ := midS_set (A := A) (B := B) (k := k) (c := d)
          have lt : A.length < (A ++ (k :: d) :: B).length := by simp
          obtain ⟨s1, s2, s3⟩ := step A.length k d g1
          have := c A.length (sC us f ((A ++ (k :: d) :: B).set A.length d) (p ++ [k])) lt (by simp only [g1])
          have q := (sC_nn h f _ _ s1 s2 s3).2 row (by rw [g2]; exact hr)
          rw [List.append_assoc] at q
          exact Int.le_trans this q
end
section
def c9 (us : List T) (l : List Nat) : Int := gD (l.map (itC us))
def e9 (us : List T) (l : List Nat) : Int := gE (l.map (itC us))
abbrev LN := List (List Nat)
def fp (L : LN) (i n : Nat) : List Nat := (L.getD i []).take n
/-- one more first part: the one so far stays unless this one's ratio is less -/
def cnd (us : List T) (L : LN) (st : Option (Nat × Nat)) (i n : Nat) : Option (Nat × Nat) := match st with
  | none => some (i, n)
  | some (a, b) => if c9 us (fp L i n) * e9 us (fp L a b) < c9 us (fp L a b) * e9 us (fp L i n) then some (i, n) else some (a, b)
def cndN (us : List T) (L : LN) (i : Nat) (st : Option (Nat × Nat)) : Nat → Option (Nat × Nat)
  | 0 => st
  | n + 1 => cnd us L (cndN us L i st n) i (n + 1)
def cndI (us : List T) (L : LN) : Nat → Option (Nat × Nat)
  | 0 => none
  | i + 1 => cndN us L i (cndI us L i) (L.getD i []).length
/-- the least of those that were seen -/
def lstOf (us : List T) (L : LN) (seen : Nat → Nat → Prop) (st : Option (Nat × Nat)) : Prop := match st with
  | none => ∀ i n, ¬ seen i n
  | some (a, b) => seen a b ∧ ∀ i n, seen i n → c9 us (fp L a b) * e9 us (fp L i n) ≤ c9 us (fp L i n) * e9 us (fp L a b)
theorem ratio_trans {x1 y1 x2 y2 x3 y3 : Int} (h1 : 0 ≤ x1) (h3 : 0 ≤ x3) (p2 : 0 < y2) (q1 : 0 < y1) (q3 : 0 < y3) (a : x1 * y2 ≤ x2 * y1) (b : x2 * y3 ≤ x3 * y2) : x1 * y3 ≤ x3 * y1 := by
  have m1 := Int.mul_le_mul_of_nonneg_right a (Int.le_of_lt q3)
  have m2 := Int.mul_le_mul_of_nonneg_right b (Int.le_of_lt q1)
  refine Int.le_of_mul_le_mul_right (a := y2) ?_ p2
  have e1 : x1 * y2 * y3 = x1 * y3 * y2 := by grind
  have e2 : x2 * y1 * y3 = x2 * y3 * y1 := by grind
  have e3 : x3 * y2 * y1 = x3 * y1 * y2 := by grind
  omega
/-- chains of tests that are there -/
def LOk (us : List T) (L : LN) : Prop := ∀ c ∈ L, ∀ x ∈ c, x < us.length
theorem fp_mem {L : LN} {i n x : Nat} (h : x ∈ fp L i n) : ∃ c ∈ L, x ∈ c := by
  unfold fp at h
  have h := List.mem_of_mem_take h
  by_cases hi : i < L.length
  · refine ⟨L[i], List.getElem_mem hi, ?_⟩
    rw [List.getD_eq_getElem?_getD, List.getElem?_eq_getElem hi] at h
    exact h
  · rw [List.getD_eq_getElem?_getD, List.getElem?_eq_none (by omega)] at h
    cases h
theorem fp_ok {us : List T} (h : us.all tOk = true) {L : LN} (hL : LOk us L) (i n : Nat) : ∀ x ∈ (fp L i n).map (itC us), iOk x := itC_ok h fun x hx => by
  obtain ⟨c, hc, hxc⟩ := fp_mem hx
  exact hL c hc x hxc
theorem fp_pos {us : List T} (h : us.all tOk = true) {L : LN} (hL : LOk us L) {i n : Nat} (h1 : 1 ≤ n) (hn : n ≤ (L.getD i []).length) : 0 < e9 us (fp L i n) := by
  refine gE_pos (fp_ok h hL i n) fun e => ?_
  have : (fp L i n).length = 0 := by have := congrArg List.length e; simpa using this
  unfold fp at this
  rw [List.length_take] at this
  omega
theorem cnd_lst {us : List T} (h : us.all tOk = true) {L : LN} (hL : LOk us L) {seen : Nat → Nat → Prop} (hs : ∀ i n, seen i n → 1 ≤ n ∧ n ≤ (L.getD i []).length) {st : Option (Nat × Nat)} (H : lstOf us L seen st) {i n : Nat} (h1 : 1 ≤ n) (hn : n ≤ (L.getD i []).length) :
    lstOf us L (fun j k => seen j k ∨ (j = i ∧ k = n)) (cnd us L st i n) := by
  cases st with
  | none =>
    show (seen i n ∨ (i = i ∧ n = n)) ∧ _
    refine ⟨.inr ⟨rfl, rfl⟩, fun j k hk => ?_⟩
    rcases hk with hk | ⟨rfl, rfl⟩
    · exact absurd hk (H j k)
    · exact Int.le_refl _
  | some p =>
    obtain ⟨a, b⟩ := p
    obtain ⟨H1, H2⟩ := H
    obtain ⟨b1, b2⟩ := hs a b H1
    have ea := fp_pos h hL b1 b2
    have en := fp_pos h hL h1 hn
    simp only [cnd]
    by_cases c : c9 us (fp L i n) * e9 us (fp L a b) < c9 us (fp L a b) * e9 us (fp L i n)
    · rw [if_pos c]
      refine ⟨.inr ⟨rfl, rfl⟩, fun j k hk => ?_⟩
      rcases hk with hk | ⟨rfl, rfl⟩
      · obtain ⟨k1, k2⟩ := hs j k hk
        exact ratio_trans (gD_nn (fp_ok h hL i n)) (gD_nn (fp_ok h hL j k)) ea en (fp_pos h hL k1 k2) (Int.le_of_lt c) (H2 j k hk)
      · exact Int.le_refl _
    · rw [if_neg c]
      refine ⟨.inl H1, fun j k hk => ?_⟩
      rcases hk with hk | ⟨rfl, rfl⟩
      · exact H2 j k hk
      · omega
theorem lst_congr {us : List T} {L : LN} {s s' : Nat → Nat → Prop} {st : Option (Nat × Nat)} (h : ∀ i n, s i n ↔ s' i n) (H : lstOf us L s st) : lstOf us L s' st := by
  cases st with
  | none => exact fun i n q => H i n ((h i n).2 q)
  | some p => exact ⟨(h _ _).1 H.1, fun i n q => H.2 i n ((h i n).2 q)⟩
theorem cndN_lst {us : List T} (h : us.all tOk = true) {L : LN} (hL : LOk us L) {seen : Nat → Nat → Prop} (hs : ∀ i n, seen i n → 1 ≤ n ∧ n ≤ (L.getD i []).length) {st : Option (Nat × Nat)} (H : lstOf us L seen st) (i : Nat) : ∀ N, N ≤ (L.getD i []).length →
    lstOf us L (fun j k => seen j k ∨ (j = i ∧ 1 ≤ k ∧ k ≤ N)) (cndN us L i st N)
  | 0, _ => lst_congr (fun j k => ⟨.inl, fun q => q.elim id fun q => by omega⟩) H
  | N + 1, hN => by
    have ih := cndN_lst h hL hs H i N (by omega)
    refine lst_congr (fun j k => ?_) (cnd_lst h hL (fun j k q => q.elim (hs j k) fun q => by obtain ⟨rfl, q1, q2⟩ := q; exact ⟨q1, by omega⟩) ih (show 1 ≤ N + 1 by omega) hN)
    constructor
    · rintro ((q | q) | q)
      · exact .inl q
      · exact .inr ⟨q.1, q.2.1, by omega⟩
      · exact .inr ⟨q.1, by omega, by omega⟩
    · rintro (q | q)
      · exact .inl (.inl q)
      · by_cases e : k = N + 1
        · exact .inr ⟨q.1, e⟩
        · exact .inl (.inr ⟨q.1, q.2.1, by omega⟩)
theorem cndI_lst {us : List T} (h : us.all tOk = true) {L : LN} (hL : LOk us L) : ∀ m, lstOf us L (fun j k => j < m ∧ 1 ≤ k ∧ k ≤ (L.getD j []).length) (cndI us L m)
  | 0 => fun i n q => by omega
  | m + 1 => by
    have ih := cndI_lst h hL m
    refine lst_congr (fun j k => ?_) (cndN_lst h hL (fun j k q => q.2) ih m (L.getD m []).length (Nat.le_refl _))
    constructor
    · rintro (q | ⟨rfl, q⟩)
      · exact ⟨by omega, q.2⟩
      · exact ⟨by omega, q⟩
    · rintro ⟨q1, q2⟩
      by_cases e : j = m
      · subst e; exact .inr ⟨rfl, q2⟩
      · exact .inl ⟨by omega, q2⟩
/-- the order of first parts -/
def chF (us : List T) : Nat → LN → List Nat
  | 0, _ => []
  | f + 1, L => match cndI us L L.length with
    | none => []
    | some (a, b) => fp L a b ++ chF us f (L.set a ((L.getD a []).drop b))
theorem wk_pre {A B : LN} {W row : List Nat} (h : Wk (A ++ W :: B) row) : ∀ X : List Nat, Wk (A ++ (X ++ W) :: B) (X ++ row)
  | [] => h
  | k :: X => .step _ _ _ _ _ (wk_pre h X)
theorem splitN_at {L : LN} {a : Nat} (ha : a < L.length) (b : Nat) : ∃ A B, A.length = a ∧ L = A ++ ((L.getD a []).take b ++ (L.getD a []).drop b) :: B ∧ L.set a ((L.getD a []).drop b) = A ++ (L.getD a []).drop b :: B := by
  have e : L.getD a [] = L[a] := by rw [List.getD_eq_getElem?_getD, List.getElem?_eq_getElem ha]; rfl
  refine ⟨L.take a, L.drop (a + 1), by rw [List.length_take]; omega, ?_, ?_⟩
  · rw [List.take_append_drop, e, List.getElem_cons_drop, List.take_append_drop]
  · rw [List.set_eq_take_append_cons_drop, if_pos ha]
theorem chF_ok {us : List T} (h : us.all tOk = true) : ∀ (f : Nat) (L : LN), LOk us L → L.flatten.length ≤ f → Wk L (chF us f L) ∧ Gr (L.map (List.map (itC us))) ((chF us f L).map (itC us))
  | f, L, hL, hf => by
    have none_of : (∀ i n, ¬ (i < L.length ∧ 1 ≤ n ∧ n ≤ (L.getD i []).length)) → ∀ c ∈ L, c = [] := fun H c hc => by
      obtain ⟨i, hi, rfl⟩ := List.getElem_of_mem hc
      have e : L.getD i [] = L[i] := by rw [List.getD_eq_getElem?_getD, List.getElem?_eq_getElem hi]; rfl
      cases hl : L[i] with
      | nil => rfl
      | cons x r => exact absurd ⟨hi, Nat.le_refl 1, by rw [e, hl]; simp⟩ (H i 1)
    have nil_ok : (∀ c ∈ L, c = []) → Wk L [] ∧ Gr (L.map (List.map (itC us))) (([] : List Nat).map (itC us)) := fun H => ⟨.nil L H, .nil _ fun c hc => by
      obtain ⟨d, hd, rfl⟩ := List.mem_map.1 hc
      rw [H d hd]; rfl⟩
    cases f with
    | zero =>
      refine nil_ok fun c hc => ?_
      have e : L.flatten = [] := List.length_eq_zero_iff.1 (by omega)
      exact List.flatten_eq_nil_iff.1 e c hc
    | succ f =>
      have I := cndI_lst h hL L.length
      simp only [chF]
      cases hc : cndI us L L.length with
      | none =>
        rw [hc] at I
        exact nil_ok (none_of I)
      | some p =>
        obtain ⟨a, b⟩ := p
        rw [hc] at I
        obtain ⟨⟨a1, b1, b2⟩, I2⟩ := I
        obtain ⟨A, B, hA, e1, e2⟩ := splitN_at a1 b
        simp only
        have lt : (L.set a ((L.getD a []).drop b)).flatten.length ≤ f := by
          rw [e2]
          have := hf
          rw [e1] at this
          simp only [List.flatten_append, List.flatten_cons, List.length_append, List.length_take, List.length_drop] at this ⊢
          omega
        have hL2 : LOk us (L.set a ((L.getD a []).drop b)) := by
          rw [e2]
          intro c hc x hx
          rcases List.mem_append.1 hc with q | q
          · refine hL c ?_ x hx
            rw [e1]
            exact List.mem_append_left _ q
          · rcases List.mem_cons.1 q with q | q
            · have hm : L.getD a [] ∈ L := by rw [List.getD_eq_getElem?_getD, List.getElem?_eq_getElem a1]; exact List.getElem_mem a1
              rw [q] at hx
              exact hL _ hm x (List.mem_of_mem_drop hx)
            · refine hL c ?_ x hx
              rw [e1]
              exact List.mem_append_right _ (List.mem_cons_of_mem _ q)
        obtain ⟨w, g⟩ := chF_ok h f _ hL2 lt
        constructor
        · have w' : Wk (A ++ (L.getD a []).drop b :: B) (chF us f (L.set a ((L.getD a []).drop b))) := by rw [← e2]; exact w
          have := wk_pre w' ((L.getD a []).take b)
          rw [← e1] at this
          exact this
        · have g' : Gr (A.map (List.map (itC us)) ++ ((L.getD a []).drop b).map (itC us) :: B.map (List.map (itC us))) ((chF us f (L.set a ((L.getD a []).drop b))).map (itC us)) := by
            rw [show A.map (List.map (itC us)) ++ ((L.getD a []).drop b).map (itC us) :: B.map (List.map (itC us)) = (L.set a ((L.getD a []).drop b)).map (List.map (itC us)) by rw [e2]; simp]
            exact g
          have e1' : L.map (List.map (itC us)) = A.map (List.map (itC us)) ++ (((L.getD a []).take b).map (itC us) ++ ((L.getD a []).drop b).map (itC us)) :: B.map (List.map (itC us)) := by
            have := congrArg (List.map (List.map (itC us))) e1
            rw [this]
            simp
          rw [List.map_append, e1']
          refine .step _ _ _ _ _ (fun q => ?_) (fun c hc P Q e => ?_) g'
          · have := congrArg List.length q
            simp at this
            rcases this with q | q
            · omega
            · rw [List.getD_eq_getElem?_getD] at b2; rw [q] at b2; simp at b2; omega
          · rw [← e1'] at hc
            obtain ⟨d, hd, rfl⟩ := List.mem_map.1 hc
            obtain ⟨i, hi, rfl⟩ := List.getElem_of_mem hd
            have ed : L.getD i [] = L[i] := by rw [List.getD_eq_getElem?_getD, List.getElem?_eq_getElem hi]; rfl
            by_cases z : P = []
            · subst z
              simp [gE, gM, gS, gD]
            · have lP : P.length ≤ L[i].length := by have := congrArg List.length e; simp at this; omega
              have eP : P = (fp L i P.length).map (itC us) := by
                unfold fp
                rw [ed, List.map_take, e]
                simp
              have := I2 i P.length ⟨hi, by have := List.length_pos_iff.2 z; omega, by rw [ed]; exact lP⟩
              unfold c9 e9 at this
              rw [← eP] at this
              exact this
end
section
/-- each test is behind the one ahead of it -/
def kpr (os : List Nat) : List Nat → Bool
  | a :: b :: r => decide (os.idxOf a ≤ os.idxOf b) && kpr os (b :: r)
  | _ => true
theorem idx_ne {x y : Nat} {r : List Nat} (h : x ≠ y) : (x :: r).idxOf y = r.idxOf y + 1 := by
  rw [List.idxOf_cons, beq_false_of_ne h]; rfl
/-- the least of all orders that keep the chains is the order of first parts -/
theorem sC_chF {us : List T} (h : us.all tOk = true) {L : LN} (hL : LOk us L) : sC us L.flatten.length L [] = gD ((chF us L.flatten.length L).map (itC us)) := by
  obtain ⟨w, g⟩ := chF_ok h L.flatten.length L hL (Nat.le_refl _)
  obtain ⟨⟨_, row, r1, r2⟩, le⟩ := sC_nn h L.flatten.length L [] (fun x hx => by cases hx) hL rfl
  have a := le _ w
  rw [List.nil_append, rA_row] at a
  rw [List.nil_append, rA_row] at r2
  have ok : ∀ c ∈ L.map (List.map (itC us)), ∀ i ∈ c, iOk i := fun c hc i hi => by
    obtain ⟨d, hd, rfl⟩ := List.mem_map.1 hc
    exact itC_ok h (hL d hd) i hi
  have b := gr_best g ok _ (wk_il (itC us) r1)
  omega
end
section
attribute [-simp] DV.cells
attribute [local simp] sliceD cells_st cells_sl cells_i cells_y cells_b cells_s cells_w
attribute [local simp] lend_eR al_eR
theorem gok_of {m : Nat} (hm : 1 ≤ m ∧ m ≤ 5) {L : List (List Int)} (h : gokB m L = true) : ∃ N : List (List Nat), L = N.map ni ∧ Gok m N := by
  unfold gokB at h
  rw [Bool.and_eq_true] at h
  obtain ⟨h1, h2⟩ := h
  obtain ⟨o1, o2, o3⟩ := orOk_iff.1 h2
  obtain ⟨o4, o5⟩ := orS_nodup.1 o3
  have e : L = (L.map (List.map Int.toNat)).map ni := by
    rw [List.map_map]
    conv => lhs; rw [← List.map_id L]
    apply List.map_congr_left
    intro r hr
    show r = ni (r.map Int.toNat)
    unfold ni
    rw [List.map_map]
    conv => lhs; rw [← List.map_id r]
    apply List.map_congr_left
    intro a ha
    have := (o4 a (List.mem_flatten.2 ⟨r, hr, ha⟩)).1
    show a = ((a.toNat : Nat) : Int)
    omega
  have ef : (L.map (List.map Int.toNat)).flatten = L.flatten.map Int.toNat := by rw [List.map_flatten]
  have lt : ∀ g ∈ L.map (List.map Int.toNat), ∀ k ∈ g, k < m := by
    intro g hg k hk
    obtain ⟨r, hr, rfl⟩ := List.mem_map.1 hg
    obtain ⟨a, ha, rfl⟩ := List.mem_map.1 hk
    have := (o4 a (List.mem_flatten.2 ⟨r, hr, ha⟩)).1
    omega
  have nd : (L.map (List.map Int.toNat)).flatten.Nodup := by
    rw [ef, List.nodup_iff_pairwise_ne, List.pairwise_map]
    refine List.Pairwise.imp_of_mem (fun {a b} ha hb hab h => hab ?_) (List.nodup_iff_pairwise_ne.1 o5)
    have := (o4 a ha).1
    have := (o4 b hb).1
    omega
  refine ⟨_, e, lt, nd, fun k hk => ?_, ?_⟩
  · rw [ef, List.mem_map]
    have p := (or_perm h2).mem_iff.2 (mem_rng.2 (show 0 ≤ (k : Int) ∧ (k : Int) < ((m : Int).toNat : Nat) by omega))
    exact ⟨(k : Int), p, by simp⟩
  · intro g hg
    obtain ⟨r, hr, rfl⟩ := List.mem_map.1 hg
    have := List.all_eq_true.1 h1 r hr
    simpa using this
def gkO (us : List T) (L : List (List Int)) (at_ : Int) : Bool := tsOk us && gokB us.length L && decide (0 ≤ at_ ∧ at_ ≤ (L.length : Int) - 1)
def gkG (L : List (List Int)) (at_ : Int) : List Nat := (L.getD at_.toNat []).map Int.toNat
theorem gkO_at {us : List T} {L : List (List Int)} {at_ : Int} (h : gkO us L at_ = true) : ∃ (N : List (List Nat)) (i : Nat) (g : List Nat), L = N.map ni ∧ Gok us.length N ∧ at_ = i ∧ N[i]? = some g ∧ gkG L at_ = g ∧ g.length ≤ 5 ∧ (∀ k ∈ g, k < us.length) := by
  unfold gkO at h
  simp only [Bool.and_eq_true, decide_eq_true_eq] at h
  obtain ⟨⟨h1, h2⟩, h3, h4⟩ := h
  have h' := tsOk_iff.1 h1
  obtain ⟨N, rfl, G⟩ := gok_of (m := us.length) (by omega) h2
  obtain ⟨i, rfl⟩ := Int.eq_ofNat_of_zero_le h3
  have hi : i < N.length := by simp at h4; omega
  have e : N[i]? = some N[i] := List.getElem?_eq_getElem hi
  have e2 : gkG (N.map ni) (i : Int) = N[i] := by
    unfold gkG
    rw [Int.toNat_natCast, List.getD_eq_getElem?_getD, List.getElem?_map, e]
    exact ni_toNat _
  refine ⟨N, i, N[i], rfl, G, rfl, e, e2, ?_, G.lt _ (List.getElem_mem hi)⟩
  have l := gok_len G
  have : N[i].length ≤ N.flatten.length := by
    obtain ⟨A, B, hAB⟩ := List.append_of_mem (List.getElem_mem hi)
    generalize N[i] = x at *
    rw [hAB, List.flatten_append, List.flatten_cons, List.length_append, List.length_append]; omega
  omega
end
section
attribute [-simp] DV.cells
attribute [local simp] sliceD cells_st cells_sl cells_i cells_y cells_b cells_s cells_w
attribute [local simp] lend_eR al_eR
theorem prR_gS (us : List T) : ∀ (l : List Nat) (on : Int), prR us 0 on (ni l) = on * gS (l.map (itC us))
  | [], on => by simp [ni, prR, gS]
  | k :: r, on => by
    have e : eA us 0 k = 6 - pA us k := by unfold eA pA; simp
    show prR us 0 (on * (6 - eA us 0 ((k : Nat) : Int).toNat)) (ni r) = _
    rw [prR_gS us r, Int.toNat_natCast, e]
    simp only [List.map_cons, gS]
    have e2 : (itC us k).2.2 - (itC us k).2.1 = 6 - (6 - pA us k) := rfl
    rw [e2, Int.mul_assoc]
def stRc (us : List T) (g : List Nat) (sum on : Int) (k : Nat) : LS := ⟨[(0, .sl 0 (us.map e2)), (1, .sl 0 ((ni g).map .i)), (6, .i sum), (7, .i on), (8, .i k)], []⟩
set_option maxHeartbeats 4000000 in
theorem ratio_loop9 {us : List T} (h : us.all tOk = true) (g : List Nat) (h5 : g.length ≤ 5) (hg : ∀ k ∈ g, k < us.length) : ∀ (rest : List Nat) (k : Nat) (on sum : Int), 0 ≤ on → on ≤ 6 ^ k → 0 ≤ sum → sum ≤ 70000 * k → k + rest.length = g.length → g.drop k = rest →
    ex lf F_spec_l9Ratio_W0 (stRc us g sum on k) = some (.exit 0, stRc us g (sum + rA us 0 on (ni rest)) (prR us 0 on (ni rest)) g.length) := by
  intro rest
  induction rest with
  | nil =>
    intro k on sum n0 n1 s0 s1 hn hd
    have e : k = g.length := by simpa using hn
    subst e
    rw [w_spec_l9Ratio_0]
    simp [stRc, F_spec_l9Ratio_L0, ni, rA, prR]
  | cons a rest ih0 =>
    intro k on sum n0 n1 s0 s1 hn hd
    obtain ⟨k1, k2, k3⟩ := drop_cons hd
    have ha : a < us.length := hg a (List.mem_of_getElem? k2)
    have k1' : (k : Int) < g.length := by omega
    have k2' : (ni g)[k]? = some (a : Int) := by unfold ni; rw [List.getElem?_map, k2]; rfl
    have at1 := atI_int k2'
    have at2 := atT ha
    have cb := cA_bd h ha
    have pb := pA_bd h ha
    have hl : rest.length + 1 = g.length - k := by simp at hn; omega
    have pp := p6le (i := k) (j := rest.length + 1) (by omega) n0 n1
    have pk := p6 (n := k) (by omega)
    have C := c_spec_l1Power (n := rest.length + 1) (by omega)
    have w1 : wr ((g.length : Int) - k) = ((rest.length + 1 : Nat) : Int) := by rw [wr_id (by omega) (by omega)]; omega
    have m1 : 0 ≤ cA us a * on ∧ cA us a * on ≤ 9 * 7776 := ⟨Int.mul_nonneg (by omega) n0, Int.mul_le_mul (by omega) (by omega) n0 (by omega)⟩
    have w2 : wr (cA us a * on) = cA us a * on := wr_id (by omega) (by omega)
    have m2 : 0 ≤ cA us a * on * 6 ^ (rest.length + 1) ∧ cA us a * on * 6 ^ (rest.length + 1) ≤ 9 * 7776 := by
      rw [Int.mul_assoc]
      exact ⟨Int.mul_nonneg (by omega) pp.1, Int.mul_le_mul (by omega) pp.2 pp.1 (by omega)⟩
    have w3 : wr (cA us a * on * 6 ^ (rest.length + 1)) = cA us a * on * 6 ^ (rest.length + 1) := wr_id (by omega) (by omega)
    have w4 : wr (sum + cA us a * on * 6 ^ (rest.length + 1)) = sum + cA us a * on * 6 ^ (rest.length + 1) := wr_id (by omega) (by omega)
    have m3 : 0 ≤ on * pA us a ∧ on * pA us a ≤ 6 ^ (k + 1) := by
      refine ⟨Int.mul_nonneg n0 (by omega), ?_⟩
      rw [Int.pow_succ]
      exact Int.mul_le_mul n1 (by omega) (by omega) (by omega)
    have pk1 := p6 (n := k + 1) (by omega)
    have w6 : wr (on * pA us a) = on * pA us a := wr_id (by omega) (by omega)
    have w7 := wr_succ (k := k) (by omega)
    have I := ih0 (k + 1) (on * pA us a) (sum + cA us a * on * 6 ^ (rest.length + 1)) m3.1 m3.2 (by omega) (by omega) (by simp at hn; omega) k3
    have ea : 6 - eA us 0 a = pA us a := by unfold eA pA; simp; omega
    have e : sum + rA us 0 on (ni (a :: rest)) = sum + cA us a * on * 6 ^ (rest.length + 1) + rA us 0 (on * pA us a) (ni rest) := by
      simp only [ni, List.map_cons, rA, List.length_map, Int.toNat_natCast, ea]; omega
    have e' : prR us 0 on (ni (a :: rest)) = prR us 0 (on * pA us a) (ni rest) := by
      simp only [ni, List.map_cons, prR, Int.toNat_natCast, ea]
    rw [w_spec_l9Ratio_0, e, e']
    unfold stRc at *
    have nl := ni_len g
    generalize (6 : Int) ^ (rest.length + 1) = P at *
    generalize rA us 0 _ (ni rest) = Z at *
    generalize prR us 0 _ (ni rest) = Y at *
    generalize cA us a = c at *
    generalize pA us a = q at *
    simp [F_spec_l9Ratio_L0, k1, k1', nl, at1, at2, ha, C, w1, w2, w3, w4, w6, w7, I, -Int.natCast_add]
theorem e9_eq (us : List T) (g : List Nat) : e9 us g = 6 ^ g.length - gS (g.map (itC us)) := by
  unfold e9 gE
  rw [itC_M]
theorem c_spec_l9Ratio {us : List T} (h : tsOk us = true) {g : List Nat} (h5 : g.length ≤ 5) (hg : ∀ k ∈ g, k < us.length) :
    call lf n_spec_l9Ratio [.sl 0 (us.map e2), .sl 0 ((ni g).map .i)] = some (.tup [.i (c9 us g), .i (e9 us g)], []) := by
  rw [call_k lf n_spec_l9Ratio _ (F := F_spec_l9Ratio) rfl rfl]
  have h' := tsOk_iff.1 h
  have I := ratio_loop9 h'.2 g h5 hg g 0 1 0 (by omega) (by omega) (by omega) (by omega) (by omega) rfl
  have b := gS_bd (itC_ok h'.2 hg)
  have pk := p6 (n := g.length) (by omega)
  rw [itC_M] at b
  rw [rA_row, prR_gS, Int.one_mul, Int.zero_add] at I
  have C := c_spec_l1Power (n := g.length) (by omega)
  rw [e9_eq]
  have nl := ni_len g
  unfold c9
  unfold stRc at I
  simp only [Int.natCast_zero] at I
  generalize gS (g.map (itC us)) = S at *
  generalize gD (g.map (itC us)) = D at *
  generalize (6 : Int) ^ g.length = P at *
  have w : wr (P - S) = P - S := wr_id (by omega) (by omega)
  simp [F_spec_l9Ratio, I, C, nl, w]
def frO (us : List T) (L : List (List Int)) (at_ many : Int) : Bool := gkO us L at_ && decide (1 ≤ many ∧ many ≤ ((gkG L at_).length : Int))
def frC (us : List T) (L : List (List Int)) (at_ many : Int) : Int := if frO us L at_ many then c9 us ((gkG L at_).take many.toNat) else 0
def frE (us : List T) (L : List (List Int)) (at_ many : Int) : Int := if frO us L at_ many then e9 us ((gkG L at_).take many.toNat) else 0
set_option maxHeartbeats 1000000 in
theorem c_spec_FirstRatio (us : List T) (L : List (List Int)) (at_ many : Int) (ha : (us.length : Int) < 1099511627776) (hb : (L.length : Int) < 1099511627776) (hf : (L.flatten.length : Int) < 1099511627776) :
    call lf n_spec_FirstRatio [.sl 0 (us.map e2), .sl 0 (L.map eR), .i at_, .i many] = some (.tup [.i (frC us L at_ many), .i (frE us L at_ many), .b (frO us L at_ many)], []) := by
  rw [call_k lf n_spec_FirstRatio _ (F := F_spec_FirstRatio) rfl rfl]
  have C1 := c_spec_TestsOk us ha
  have C2 := c_spec_GroupsOk us.length L hb hf
  have w1 : wr ((L.length : Int) - 1) = L.length - 1 := wr_id (by omega) (by omega)
  have C3 := c_spec_l1In at_ 0 (L.length - 1)
  unfold frC frE frO
  cases h : gkO us L at_ with
  | false =>
    unfold gkO at h
    rw [Bool.false_and]
    cases h1 : tsOk us with
    | false => rw [h1] at C1; simp [F_spec_FirstRatio, C1]
    | true =>
      rw [h1] at C1 h
      cases h2 : gokB us.length L with
      | false => rw [h2] at C2; simp [F_spec_FirstRatio, C1, C2]
      | true =>
        rw [h2] at C2 h
        rw [Bool.true_and, Bool.true_and] at h
        rw [h] at C3
        simp [F_spec_FirstRatio, C1, C2, C3, w1]
  | true =>
    obtain ⟨N, i, g, rfl, G, rfl, e1, e2, g5, gl⟩ := gkO_at h
    unfold gkO at h
    simp only [Bool.and_eq_true] at h
    obtain ⟨⟨h1, h2⟩, h3⟩ := h
    rw [h1] at C1
    rw [h2] at C2
    rw [h3] at C3
    have at1 : atI ((N.map ni).map eR) (i : Int) = some (.sl 0 ((ni g).map .i)) := at_eR (by rw [List.getElem?_map, e1]; rfl)
    have i0 : (i : Int) < (N.map ni).length := by have := (List.getElem?_eq_some_iff.1 e1).1; simp; omega
    have nl := ni_len g
    have C6 := c_spec_l1In many 1 g.length
    rw [e2, Bool.true_and]
    cases h4 : decide (1 ≤ many ∧ many ≤ (g.length : Int)) with
    | false =>
      rw [h4] at C6
      generalize N.map ni = L at *
      simp [F_spec_FirstRatio, C1, C2, C3, C6, w1, at1, i0, nl]
    | true =>
      rw [h4] at C6
      obtain ⟨m1, m2⟩ := of_decide_eq_true h4
      obtain ⟨n, rfl⟩ := Int.eq_ofNat_of_zero_le (show 0 ≤ many by omega)
      have C4 := c_spec_l9Ratio h1 (g := g.take n) (by rw [List.length_take]; omega) (fun k hk => gl k (List.mem_of_mem_take hk))
      have tk : List.take n ((ni g).map DV.i) = (ni (g.take n)).map .i := by unfold ni; simp
      have n0 : n ≤ g.length := by omega
      rw [Int.toNat_natCast]
      generalize N.map ni = L at *
      simp [F_spec_FirstRatio, C1, C2, C3, C4, C6, w1, at1, i0, nl, tk, n0]
end
section
attribute [-simp] DV.cells
attribute [local simp] sliceD cells_st cells_sl cells_i cells_y cells_b cells_s cells_w
attribute [local simp] lend_eR al_eR
/-- how many of a chain are asked -/
def inP (p c : List Nat) : Nat := (p.map fun o => c.count o).sum
def left (C : LN) (p : List Nat) : LN := C.map fun c => c.drop (inP p c)
theorem inP_snoc (p c : List Nat) (k : Nat) : inP (p ++ [k]) c = inP p c + c.count k := by simp [inP]
/-- what was asked is of each chain its beginning -/
structure Beg (m : Nat) (C : LN) (p : List Nat) : Prop where
  le : ∀ c ∈ C, inP p c ≤ c.length
  mem : ∀ c ∈ C, ∀ x ∈ c, x ∈ p → x ∈ c.take (inP p c)
  lt : ∀ x ∈ p, x < m
  nd : p.Nodup
theorem beg_nil (m : Nat) (C : LN) : Beg m C [] := ⟨fun c _ => by simp [inP], fun c _ x _ h => (by cases h), fun x h => (by cases h), List.nodup_nil⟩
theorem left_nil (C : LN) : left C [] = C := by
  unfold left inP
  simp
theorem flat_ge9 : ∀ {C : LN}, (∀ c ∈ C, c ≠ []) → C.length ≤ C.flatten.length
  | [], _ => by simp
  | c :: C, h => by
    have := flat_ge9 (C := C) fun d hd => h d (List.mem_cons_of_mem _ hd)
    have c0 : 0 < c.length := List.length_pos_iff.2 (h c List.mem_cons_self)
    simp only [List.length_cons, List.flatten_cons, List.length_append]
    omega
theorem gok_apart {m : Nat} {C : LN} (G : Gok m C) {i j k : Nat} (hi : i < C.length) (hj : j < C.length) (e : i ≠ j) (h1 : k ∈ C[i]) : k ∉ C[j] := by
  intro h2
  have P := (List.pairwise_flatten.1 G.nd).2
  have P := List.pairwise_iff_getElem.1 P
  rcases Nat.lt_or_gt_of_ne e with q | q
  · exact P i j hi hj q k h1 k h2 rfl
  · exact P j i hj hi q k h2 k h1 rfl
theorem gok_nd {m : Nat} {C : LN} (G : Gok m C) {c : List Nat} (hc : c ∈ C) : c.Nodup := (List.pairwise_flatten.1 G.nd).1 c hc
theorem left_at {C : LN} {p : List Nat} {i : Nat} (hi : i < C.length) : (left C p).getD i [] = C[i].drop (inP p C[i]) := by
  unfold left
  rw [List.getD_eq_getElem?_getD, List.getElem?_map, List.getElem?_eq_getElem hi]
  rfl
theorem beg_step {m : Nat} {C : LN} (G : Gok m C) {p : List Nat} (B : Beg m C p) {i k : Nat} (hi : i < C.length) (hk : C[i][inP p C[i]]? = some k) : Beg m C (p ++ [k]) ∧ left C (p ++ [k]) = (left C p).set i (C[i].drop (inP p C[i] + 1)) := by
  have nd := gok_nd G (List.getElem_mem hi)
  have hkm : k ∈ C[i] := List.mem_of_getElem? hk
  have c1 : C[i].count k = 1 := nd.count.trans (if_pos hkm)
  have c0 : ∀ j (hj : j < C.length), j ≠ i → C[j].count k = 0 := fun j hj e => List.count_eq_zero.2 (gok_apart G hi hj (Ne.symm e) hkm)
  have al := (List.getElem?_eq_some_iff.1 hk).1
  have ak := (List.getElem?_eq_some_iff.1 hk).2
  have hkp : k ∉ p := fun q => by
    have := B.mem _ (List.getElem_mem hi) k hkm q
    obtain ⟨j, hj, e⟩ := List.mem_take_iff_getElem.1 this
    exact List.pairwise_iff_getElem.1 nd j (inP p C[i]) (by omega) al (by omega) (e.trans ak.symm)
  refine ⟨⟨fun c hc => ?_, fun c hc x hx hp => ?_, fun x hx => ?_, ?_⟩, ?_⟩
  · obtain ⟨j, hj, rfl⟩ := List.getElem_of_mem hc
    rw [inP_snoc]
    by_cases e : j = i
    · subst e; rw [c1]; omega
    · rw [c0 j hj e]; exact B.le _ hc
  · obtain ⟨j, hj, rfl⟩ := List.getElem_of_mem hc
    rw [inP_snoc]
    by_cases e : j = i
    · subst e
      rw [c1, List.take_add_one, hk]
      rcases List.mem_append.1 hp with q | q
      · exact List.mem_append_left _ (B.mem _ hc x hx q)
      · rw [List.mem_singleton.1 q]; exact List.mem_append_right _ (by simp)
    · rw [c0 j hj e]
      rcases List.mem_append.1 hp with q | q
      · exact B.mem _ hc x hx q
      · rw [List.mem_singleton.1 q] at hx
        exact absurd hx (gok_apart G hi hj (Ne.symm e) hkm)
  · rcases List.mem_append.1 hx with q | q
    · exact B.lt x q
    · rw [List.mem_singleton.1 q]; exact G.lt _ (List.getElem_mem hi) k hkm
  · rw [List.nodup_append]
    refine ⟨B.nd, by simp, fun a ha b hb => ?_⟩
    rw [List.mem_singleton.1 hb]
    exact fun q => hkp (q ▸ ha)
  · apply List.ext_getElem (by simp [left])
    intro j h1 h2
    have hj : j < C.length := by simpa [left] using h1
    rw [List.getElem_set]
    simp only [left, List.getElem_map]
    rw [inP_snoc]
    by_cases e : i = j
    · subst e; rw [if_pos rfl, c1]
    · rw [if_neg e, c0 j hj (Ne.symm e), Nat.add_zero]
def stS1 (us : List T) (C : LN) (p : List Nat) (b : Int) (k a j : Nat) : LS := ⟨[(0, .sl 0 (us.map e2)), (1, .sl 0 ((C.map ni).map eR)), (2, .sl 0 ((ni p).map .i)), (7, .i b), (8, .i k), (9, .i a), (10, .i j)], []⟩
def stS2 (us : List T) (C : LN) (p : List Nat) (b : Int) (k a j i : Nat) : LS := ⟨[(0, .sl 0 (us.map e2)), (1, .sl 0 ((C.map ni).map eR)), (2, .sl 0 ((ni p).map .i)), (7, .i b), (8, .i k), (9, .i a), (10, .i j), (11, .i i)], []⟩
theorem at_C {C : LN} {i : Nat} (hi : i < C.length) : atI ((C.map ni).map eR) (i : Int) = some (.sl 0 ((ni C[i]).map .i)) := at_eR (by rw [List.getElem?_map, List.getElem?_eq_getElem hi]; rfl)
set_option maxHeartbeats 1000000 in
theorem s9_inner {us : List T} {C : LN} {p : List Nat} {b : Int} {k j o : Nat} (hk : k < C.length) (hj : p[j]? = some o) : ∀ (r : List Nat) (i a : Nat), a + r.length ≤ 1000 → i + r.length = C[k].length → C[k].length ≤ 1000 → C[k].drop i = r →
    ex lf F_spec_l9Search_W2 (stS2 us C p b k a j i) = some (.exit 4, stS2 us C p b k (a + r.count o) j C[k].length) := by
  have A := at_C hk
  have hk' : (k : Int) < (C.map ni).length := by simp; omega
  have nl := ni_len C[k]
  have np := ni_len p
  obtain ⟨bo, bn⟩ := at_ni hj
  have hjp : (j : Int) < p.length := by have := (List.getElem?_eq_some_iff.1 hj).1; omega
  intro r
  induction r with
  | nil =>
    intro i a ha hi hc hd
    have e : i = C[k].length := by simpa using hi
    subst e
    rw [w_spec_l9Search_2]
    unfold stS2
    generalize C.map ni = L at *
    simp [F_spec_l9Search_L2, A, hk', nl]
  | cons x r ih =>
    intro i a ha hi hc hd
    obtain ⟨k1, k2, k3⟩ := drop_cons hd
    obtain ⟨xo, xn⟩ := at_ni k2
    have k1' : (i : Int) < C[k].length := by omega
    have w1 := wr_succ (k := i) (by omega)
    have w2 := wr_succ (k := a) (by simp at ha; omega)
    rw [w_spec_l9Search_2]
    by_cases e : x = o
    · subst e
      have I := ih (i + 1) (a + 1) (by simp at ha; omega) (by simp at hi; omega) hc k3
      rw [List.count_cons_self, show a + (r.count x + 1) = a + 1 + r.count x by omega]
      unfold stS2 at *
      generalize C.map ni = L at *
      generalize C[k].length = cl at *
      simp [F_spec_l9Search_L2, A, hk', nl, bo, bn, hjp, np, xo, xn, k1, k1', w1, w2, I, -Int.natCast_add]
    · have I := ih (i + 1) a (by simp at ha; omega) (by simp at hi; omega) hc k3
      have e' : ((x : Int) == (o : Int)) = false := beq_eq_false_iff_ne.2 (by omega)
      rw [List.count_cons_of_ne e]
      unfold stS2 at *
      generalize C.map ni = L at *
      generalize C[k].length = cl at *
      simp [F_spec_l9Search_L2, A, hk', nl, bo, bn, hjp, np, xo, xn, k1, k1', w1, e', e, I, -Int.natCast_add]
set_option maxHeartbeats 1000000 in
theorem s9_outer {us : List T} {C : LN} {p : List Nat} {b : Int} {k : Nat} (hk : k < C.length) (hc : C[k].length ≤ 5) (hp : p.length ≤ 5) :
    ex lf F_spec_l9Search_W1 (stS1 us C p b k 0 0) = some (.exit 2, stS1 us C p b k (inP p C[k]) p.length) := by
  have np := ni_len p
  have e0 : stS1 us C p b k 0 0 = (fun j => stS1 us C p b k (inP (p.take j) C[k]) j) 0 := by simp [inP]
  rw [e0]
  refine loop_count (lf := lf) (L := F_spec_l9Search_L1) p.length (fun j => stS1 us C p b k (inP (p.take j) C[k]) j) (fun j hj => ?_) ?_ (by simp)
  · have hj' : (j : Int) < p.length := by omega
    have hjo : p[j]? = some p[j] := List.getElem?_eq_getElem hj
    have bd : ∀ l : List Nat, l.length ≤ 5 → inP l C[k] ≤ 5 * l.length := fun l => by
      induction l with
      | nil => intro _; simp [inP]
      | cons x r ih =>
        intro h
        have := ih (by simp at h; omega)
        have := List.count_le_length (a := x) (l := C[k])
        simp only [inP, List.map_cons, List.sum_cons, List.length_cons] at *
        omega
    have bj := bd (p.take j) (by rw [List.length_take]; omega)
    rw [List.length_take] at bj
    have I := s9_inner (us := us) (b := b) hk hjo C[k] 0 (inP (p.take j) C[k]) (by omega) (by omega) (by omega) rfl
    have e1 : inP (p.take (j + 1)) C[k] = inP (p.take j) C[k] + C[k].count p[j] := by
      rw [List.take_add_one, hjo]
      exact inP_snoc _ _ _
    have w1 := wr_succ (k := j) (by omega)
    show ex lf F_spec_l9Search_L1 (stS1 us C p b k (inP (p.take j) C[k]) j) = some (.normal, stS1 us C p b k (inP (p.take (j + 1)) C[k]) (j + 1))
    rw [e1]
    unfold stS1
    unfold stS2 at I
    simp only [Int.natCast_zero] at I
    generalize inP (p.take j) C[k] = a at *
    generalize C[k].count p[j] = a2 at *
    generalize C.map ni = L at *
    simp [F_spec_l9Search_L1, hj, hj', np, w1, I, -Int.natCast_add]
  · show ex lf F_spec_l9Search_L1 (stS1 us C p b k (inP (p.take p.length) C[k]) p.length) = _
    rw [List.take_length]
    unfold stS1
    generalize C.map ni = L at *
    simp [F_spec_l9Search_L1, np]
def stS0 (us : List T) (C : LN) (p : List Nat) (b : Int) (k : Nat) : LS := ⟨[(0, .sl 0 (us.map e2)), (1, .sl 0 ((C.map ni).map eR)), (2, .sl 0 ((ni p).map .i)), (7, .i b), (8, .i k)], []⟩
theorem os_ok {m : Nat} (h5 : 1 ≤ m ∧ m ≤ 5) {p : List Nat} (nd : p.Nodup) (lt : ∀ x ∈ p, x < m) (hl : p.length = m) : orOk m (ni p) = true := by
  refine orOk_iff.2 ⟨by omega, by rw [ni_len, hl], orS_nodup.2 ⟨fun o ho => ?_, ?_⟩⟩
  · obtain ⟨x, hx, rfl⟩ := List.mem_map.1 ho
    have := lt x hx
    exact ⟨by omega, by simp⟩
  · unfold ni
    exact List.pairwise_map.2 (nd.imp fun h q => h (Int.ofNat_inj.1 q))
set_option maxHeartbeats 4000000 in
theorem c_spec_l9Search {us : List T} (h : tsOk us = true) {C : LN} (G : Gok us.length C) : ∀ (f : Nat) (p : List Nat), Beg us.length C p → f + p.length = us.length →
    call lf n_spec_l9Search [.sl 0 (us.map e2), .sl 0 ((C.map ni).map eR), .sl 0 ((ni p).map .i)] = some (.i (sC us f (left C p) p), []) := by
  have h' := tsOk_iff.1 h
  have h5 : 1 ≤ us.length ∧ us.length ≤ 5 := by omega
  have gl := gok_len G
  have cl5 : ∀ c ∈ C, c.length ≤ 5 := fun c hc => by
    obtain ⟨A, B, e⟩ := List.append_of_mem hc
    have e2 : C.flatten.length = (A ++ c :: B).flatten.length := by rw [← e]
    rw [List.flatten_append, List.flatten_cons, List.length_append, List.length_append] at e2
    omega
  have cn : C.length ≤ 5 := by
    have := flat_ge9 G.ne
    omega
  intro f
  induction f with
  | zero =>
    intro p B hf
    rw [call_k lf n_spec_l9Search _ (F := F_spec_l9Search) rfl rfl]
    have np := ni_len p
    have hl : p.length = us.length := by omega
    have R := c_spec_RowAverage us (ni p) 0 (by omega) (by omega)
    have e : raOf us (ni p) 0 = rA us 0 1 (ni p) := by
      unfold raOf raOk
      rw [os_ok h5 B.nd B.lt hl, h]
      rfl
    rw [e] at R
    show _ = some (DV.i (rA us 0 1 (ni p)), [])
    generalize C.map ni = L at *
    generalize rA us 0 1 (ni p) = Z at *
    simp [F_spec_l9Search, np, hl, R]
  | succ f ih =>
    intro p B hf
    have np := ni_len p
    have hlp : ¬ p.length = us.length := by omega
    have hlp' : ((p.length : Int) == (us.length : Int)) = false := beq_eq_false_iff_ne.2 (by omega)
    have LP := loop_count (lf := lf) (L := F_spec_l9Search_L0) C.length (fun i => stS0 us C p (mnO (fun i => match (left C p).getD i [] with
      | [] => none
      | k :: c => some (sC us f ((left C p).set i c) (p ++ [k]))) i) i) (x := .exit 0) (R := stS0 us C p (sC us (f + 1) (left C p) p) C.length) (fun i hi => by
        have I := s9_outer (us := us) (p := p) (b := mnO (fun i => match (left C p).getD i [] with
          | [] => none
          | k :: c => some (sC us f ((left C p).set i c) (p ++ [k]))) i) hi (cl5 _ (List.getElem_mem hi)) (by omega)
        have A := at_C hi
        have hi' : (i : Int) < (C.map ni).length := by simp; omega
        have nl := ni_len C[i]
        have w1 := wr_succ (k := i) (by omega)
        have le := B.le _ (List.getElem_mem hi)
        have la := left_at (C := C) (p := p) hi
        show ex lf F_spec_l9Search_L0 (stS0 us C p (mnO (fun i => match (left C p).getD i [] with
          | [] => none
          | k :: c => some (sC us f ((left C p).set i c) (p ++ [k]))) i) i) = some (.normal, stS0 us C p (mnO (fun i => match (left C p).getD i [] with
          | [] => none
          | k :: c => some (sC us f ((left C p).set i c) (p ++ [k]))) (i + 1)) (i + 1))
        simp only [mnO]
        by_cases q : inP p C[i] = C[i].length
        · rw [la, q, List.drop_length]
          simp only
          rw [q] at I
          unfold stS0
          unfold stS1 at I
          simp only [Int.natCast_zero] at I
          generalize mnO _ i = b at *
          generalize C.map ni = L at *
          simp [F_spec_l9Search_L0, hi, hi', A, nl, w1, I, -Int.natCast_add]
        · have lt : inP p C[i] < C[i].length := by omega
          have hk : C[i][inP p C[i]]? = some C[i][inP p C[i]] := List.getElem?_eq_getElem lt
          obtain ⟨B2, e2⟩ := beg_step G B hi hk
          have S := ih (p ++ [C[i][inP p C[i]]]) B2 (by simp; omega)
          rw [e2] at S
          obtain ⟨xo, xn⟩ := at_ni hk
          rw [la, ← List.getElem_cons_drop lt]
          simp only
          have q' : ((inP p C[i] : Int) == (C[i].length : Int)) = false := beq_eq_false_iff_ne.2 (by omega)
          have lt' : (inP p C[i] : Int) < C[i].length := by omega
          rw [ni_app, List.map_append] at S
          have e3 : (ni [C[i][inP p C[i]]]).map DV.i = [.i (C[i][inP p C[i]] : Nat)] := rfl
          rw [e3] at S
          generalize C[i][inP p C[i]] = k at *
          generalize sC us f _ (p ++ [k]) = Z at *
          unfold stS0
          unfold stS1 at I
          simp only [Int.natCast_zero] at I
          generalize mnO _ i = b at *
          generalize C.map ni = L at *
          generalize inP p C[i] = a at *
          have tk : List.take (p.length + 1) ((ni p).map DV.i ++ [.i (k : Int)]) = (ni p).map .i ++ [.i (k : Int)] := List.take_of_length_le (by simp [np])
          have bd : p.length + 1 ≤ bound := by unfold bound; omega
          have bd2 : p.length ≤ bound := by unfold bound; omega
          by_cases c1 : b < 0
          · simp [F_spec_l9Search_L0, hi, hi', A, nl, np, w1, I, q, q', xo, xn, lt, lt', S, bd, bd2, tk, c1, -Int.natCast_add]
          · by_cases c2 : Z < b
            · simp [F_spec_l9Search_L0, hi, hi', A, nl, np, w1, I, q, q', xo, xn, lt, lt', S, bd, bd2, tk, c1, c2, -Int.natCast_add]
            · simp [F_spec_l9Search_L0, hi, hi', A, nl, np, w1, I, q, q', xo, xn, lt, lt', S, bd, bd2, tk, c1, c2, -Int.natCast_add]) (by
        have e : (left C p).length = C.length := by simp [left]
        show ex lf F_spec_l9Search_L0 (stS0 us C p (mnO (fun i => match (left C p).getD i [] with
          | [] => none
          | k :: c => some (sC us f ((left C p).set i c) (p ++ [k]))) C.length) C.length) = _
        have e2 : sC us (f + 1) (left C p) p = mnO (fun i => match (left C p).getD i [] with
          | [] => none
          | k :: c => some (sC us f ((left C p).set i c) (p ++ [k]))) C.length := by rw [← e]; rfl
        rw [e2]
        generalize mnO _ C.length = b at *
        have ll : (C.map ni).length = C.length := by simp
        unfold stS0
        generalize C.map ni = L at *
        simp [F_spec_l9Search_L0, ll]) (by simp)
    rw [call_k lf n_spec_l9Search _ (F := F_spec_l9Search) rfl rfl]
    simp only [mnO, Int.natCast_zero] at LP
    unfold stS0 at LP
    simp only [Int.natCast_zero] at LP
    have wf : F_spec_l9Search_W0 = .loop F_spec_l9Search_L0 := rfl
    rw [← wf] at LP
    generalize sC us (f + 1) (left C p) p = Z at *
    generalize C.map ni = L at *
    simp [F_spec_l9Search, np, hlp, hlp', LP]
end
section
attribute [-simp] DV.cells
attribute [local simp] sliceD cells_st cells_sl cells_i cells_y cells_b cells_s cells_w
attribute [local simp] lend_eR al_eR
def natL (L : List (List Int)) : LN := L.map fun r => r.map Int.toNat
theorem natL_ni (N : LN) : natL (N.map ni) = N := by
  unfold natL
  rw [List.map_map]
  conv => rhs; rw [← List.map_id N]
  apply List.map_congr_left
  intro r _
  exact ni_toNat r
def cbO (us : List T) (L : List (List Int)) : Bool := tsOk us && gokB us.length L
def cbV (us : List T) (L : List (List Int)) : Int := if cbO us L then gD ((chF us us.length (natL L)).map (itC us)) else -1
set_option maxHeartbeats 1000000 in
theorem c_spec_ChainBest (us : List T) (L : List (List Int)) (ha : (us.length : Int) < 1099511627776) (hb : (L.length : Int) < 1099511627776) (hf : (L.flatten.length : Int) < 1099511627776) :
    call lf n_spec_ChainBest [.sl 0 (us.map e2), .sl 0 (L.map eR)] = some (.i (cbV us L), []) := by
  rw [call_k lf n_spec_ChainBest _ (F := F_spec_ChainBest) rfl rfl]
  have C1 := c_spec_TestsOk us ha
  have C2 := c_spec_GroupsOk us.length L hb hf
  unfold cbV cbO
  cases h1 : tsOk us with
  | false => rw [h1] at C1; simp [F_spec_ChainBest, C1]
  | true =>
    rw [h1] at C1
    cases h2 : gokB us.length L with
    | false => rw [h2] at C2; simp [F_spec_ChainBest, C1, C2]
    | true =>
      rw [h2] at C2
      have h' := tsOk_iff.1 h1
      obtain ⟨N, rfl, G⟩ := gok_of (m := us.length) (by omega) h2
      have S := c_spec_l9Search h1 G us.length [] (beg_nil _ _) (by simp)
      rw [left_nil, ← gok_len G, sC_chF h'.2 G.lt, gok_len G] at S
      rw [natL_ni]
      have e0 : (ni []).map DV.i = [] := rfl
      rw [e0] at S
      generalize gD _ = Z at *
      generalize N.map ni = L at *
      simp [F_spec_ChainBest, C1, C2, S]
/-- places by tests -/
def plS (m : Nat) (os : List Nat) : Nat → List Int
  | 0 => List.replicate m 0
  | j + 1 => (plS m os j).set (os.getD j 0) j
theorem plS_len (m : Nat) (os : List Nat) : ∀ j, (plS m os j).length = m
  | 0 => by simp [plS]
  | j + 1 => by simp [plS, plS_len m os j]
theorem plS_at {m : Nat} {os : List Nat} (nd : os.Nodup) (lt : ∀ x ∈ os, x < m) : ∀ j, j ≤ os.length → ∀ i, (h : i < os.length) → i < j → (plS m os j)[os[i]]? = some ((i : Nat) : Int)
  | 0, _, i, _, h => absurd h (by omega)
  | j + 1, hj, i, hi, h => by
    simp only [plS]
    have e : os.getD j 0 = os[j] := by rw [List.getD_eq_getElem?_getD, List.getElem?_eq_getElem (by omega)]; rfl
    have l := lt os[i] (List.getElem_mem hi)
    rw [e]
    by_cases q : i = j
    · subst q
      rw [List.getElem?_set_self (by rw [plS_len]; exact l)]
    · have ne : os[j] ≠ os[i] := fun r => List.pairwise_iff_getElem.1 nd i j hi (by omega) (by omega) r.symm
      rw [List.getElem?_set_ne ne]
      exact plS_at nd lt j (by omega) i hi (by omega)
theorem plS_idx {m : Nat} {os : List Nat} (nd : os.Nodup) (lt : ∀ x ∈ os, x < m) {x : Nat} (hx : x ∈ os) : (plS m os os.length)[x]? = some ((os.idxOf x : Nat) : Int) := by
  have hi := List.idxOf_lt_length_of_mem hx
  have := plS_at nd lt os.length (Nat.le_refl _) (os.idxOf x) hi hi
  rwa [List.getElem_idxOf hi] at this
theorem at_row {R : List Int} {x : Nat} {v : Int} (h : R[x]? = some v) : atI (R.map DV.i) (x : Int) = some (.i v) ∧ atN (R.map DV.i) x = some (.i v) := by
  refine ⟨atI_int h, ?_⟩
  show (R.map DV.i)[x]? = _
  rw [List.getElem?_map, h]; rfl
def stK2 (L : LN) (R : List Int) (k j : Nat) : LS := ⟨[(1, .sl 0 ((L.map ni).map eR)), (7, .own 11272 R.length 0 R.length), (9, .i k), (10, .i j)], [(11272, R.map .i)]⟩
def stK1 (L : LN) (R : List Int) (k : Nat) : LS := ⟨[(1, .sl 0 ((L.map ni).map eR)), (7, .own 11272 R.length 0 R.length), (9, .i k)], [(11272, R.map .i)]⟩
set_option maxHeartbeats 2000000 in
theorem kc_inner {L : LN} {R : List Int} {os : List Nat} {k : Nat} (hk : k < L.length) (h5 : L[k].length ≤ 5) (hR : ∀ x ∈ L[k], x < R.length ∧ R[x]? = some ((os.idxOf x : Nat) : Int)) : ∀ (r : List Nat) (a j : Nat), L[k].drop j = a :: r →
    ex lf F_spec_KeepsChains_W2 (stK2 L R k (j + 1)) = if kpr os (a :: r) then some (.exit 4, stK2 L R k L[k].length) else some (.ret, ⟨[(6, .b false)], []⟩) := by
  have A := at_C hk
  have hk' : (k : Int) < (L.map ni).length := by simp; omega
  have nl := ni_len L[k]
  intro r
  induction r with
  | nil =>
    intro a j hd
    obtain ⟨k1, k2, k3⟩ := drop_cons hd
    have e : j + 1 = L[k].length := by
      have := congrArg List.length k3
      simp at this
      omega
    rw [w_spec_KeepsChains_2, e]
    unfold stK2
    generalize L.map ni = L' at *
    simp [F_spec_KeepsChains_L2, A, hk', nl, kpr]
  | cons x r ih =>
    intro a j hd
    obtain ⟨k1, k2, k3⟩ := drop_cons hd
    obtain ⟨l1, l2, l3⟩ := drop_cons k3
    obtain ⟨ao, an⟩ := at_ni k2
    obtain ⟨xo, xn⟩ := at_ni l2
    obtain ⟨ra, rb⟩ := hR a (List.mem_of_getElem? k2)
    obtain ⟨rc, rd⟩ := hR x (List.mem_of_getElem? l2)
    obtain ⟨ro, rn⟩ := at_row rb
    obtain ⟨so, sn⟩ := at_row rd
    have I := ih x (j + 1) k3
    have l1' : ((j + 1 : Nat) : Int) < L[k].length := by omega
    have k1' : (j : Int) < L[k].length := by omega
    have w0 : wr (((j + 1 : Nat) : Int) - 1) = (j : Int) := by rw [wr_id (by omega) (by omega)]; omega
    have w1 := wr_succ (k := j + 1) (by omega)
    rw [w_spec_KeepsChains_2]
    have ra' : (a : Int) < R.length := by omega
    have rc' : (x : Int) < R.length := by omega
    generalize hj : j + 1 = j1 at *
    by_cases q : os.idxOf a ≤ os.idxOf x
    · have q' : ¬ (os.idxOf x < os.idxOf a) := by omega
      have ek : kpr os (a :: x :: r) = kpr os (x :: r) := by simp [kpr, q]
      rw [ek]
      unfold stK2 at *
      generalize L.map ni = L' at *
      simp [F_spec_KeepsChains_L2, A, hk', nl, ao, an, xo, xn, ro, rn, so, sn, l1, l1', k1, k1', w0, w1, ra, ra', rc, rc', q, q', I, -Int.natCast_add]
    · have q' : os.idxOf x < os.idxOf a := by omega
      have ek : kpr os (a :: x :: r) = false := by simp [kpr, q]
      rw [ek]
      unfold stK2 at *
      generalize L.map ni = L' at *
      simp [F_spec_KeepsChains_L2, A, hk', nl, ao, an, xo, xn, ro, rn, so, sn, l1, l1', k1, k1', w0, w1, ra, ra', rc, rc', q, q', I, -Int.natCast_add]
set_option maxHeartbeats 2000000 in
theorem kc_outer {L : LN} {R : List Int} {os : List Nat} (cn : L.length ≤ 5) (h5 : ∀ c ∈ L, c.length ≤ 5) (ne : ∀ c ∈ L, c ≠ []) (hR : ∀ c ∈ L, ∀ x ∈ c, x < R.length ∧ R[x]? = some ((os.idxOf x : Nat) : Int)) : ∀ (r : LN) (k : Nat), L.drop k = r →  k + r.length = L.length →
    ex lf F_spec_KeepsChains_W1 (stK1 L R k) = if r.all (kpr os) then some (.exit 2, stK1 L R L.length) else some (.ret, ⟨[(6, .b false)], []⟩) := by
  have ll : (L.map ni).length = L.length := by simp
  intro r
  induction r with
  | nil =>
    intro k hd hl
    have e : k = L.length := by simpa using hl
    subst e
    rw [w_spec_KeepsChains_1]
    unfold stK1
    generalize L.map ni = L' at *
    simp [F_spec_KeepsChains_L1, ll]
  | cons c r ih =>
    intro k hd hl
    obtain ⟨k1, k2, k3⟩ := drop_cons hd
    have e : L[k] = c := (List.getElem?_eq_some_iff.1 k2).2
    have hc : c ∈ L := List.mem_of_getElem? k2
    have I := ih (k + 1) k3 (by simp at hl; omega)
    cases c with
    | nil => exact absurd rfl (ne _ hc)
    | cons a c =>
      have J := kc_inner (R := R) (os := os) k1 (by rw [e]; exact h5 _ hc) (by rw [e]; exact hR _ hc) c a 0 (by rw [e]; rfl)
      rw [e] at J
      have k1' : (k : Int) < L.length := by omega
      have w1 := wr_succ (k := k) (by omega)
      rw [w_spec_KeepsChains_1, List.all_cons]
      cases q : kpr os (a :: c) with
      | true =>
        rw [q, if_pos rfl] at J
        rw [Bool.true_and]
        unfold stK1 at *
        unfold stK2 at J
        have e1 : (((0 + 1 : Nat)) : Int) = 1 := rfl
        rw [e1] at J
        generalize L.map ni = L' at *
        simp [F_spec_KeepsChains_L1, ll, k1, k1', w1, J, I, -Int.natCast_add]
      | false =>
        rw [q, if_neg (by simp)] at J
        rw [Bool.false_and]
        unfold stK1 at *
        unfold stK2 at J
        have e1 : (((0 + 1 : Nat)) : Int) = 1 := rfl
        rw [e1] at J
        generalize L.map ni = L' at *
        simp [F_spec_KeepsChains_L1, ll, k1, k1', w1, J, -Int.natCast_add]
def stK0 (L : List (List Int)) (os : List Nat) (m k : Nat) : LS := ⟨[(1, .sl 0 (L.map eR)), (2, .sl 0 ((ni os).map .i)), (7, .own 11272 m 0 m), (8, .i k)], [(11272, (plS m os k).map .i)]⟩
set_option maxHeartbeats 2000000 in
theorem kc_places (L : List (List Int)) {os : List Nat} {m : Nat} (h5 : os.length ≤ 5) (lt : ∀ x ∈ os, x < m) : ex lf F_spec_KeepsChains_W0 (stK0 L os m 0) = some (.exit 0, stK0 L os m os.length) := by
  have nl := ni_len os
  refine loop_count (lf := lf) (L := F_spec_KeepsChains_L0) os.length (fun k => stK0 L os m k) (fun k hk => ?_) ?_ (by simp)
  · have k2 : os[k]? = some os[k] := List.getElem?_eq_getElem hk
    obtain ⟨ao, an⟩ := at_ni k2
    have e : os.getD k 0 = os[k] := by rw [List.getD_eq_getElem?_getD, k2]; rfl
    have l := lt os[k] (List.getElem_mem hk)
    have hk' : (k : Int) < os.length := by omega
    have w1 := wr_succ (k := k) (by omega)
    have pl := plS_len m os k
    show ex lf F_spec_KeepsChains_L0 (stK0 L os m k) = some (.normal, stK0 L os m (k + 1))
    unfold stK0
    simp only [plS]
    rw [e]
    generalize os[k] = o at *
    generalize plS m os k = R at *
    have l' : (o : Int) < m := by omega
    obtain ⟨v, hv⟩ : ∃ v, R[o]? = some v := ⟨R[o], List.getElem?_eq_getElem (by omega)⟩
    obtain ⟨ro, rn⟩ := at_row hv
    simp [F_spec_KeepsChains_L0, nl, hk, hk', ao, an, ro, rn, l, l', w1, pl, -Int.natCast_add]
  · show ex lf F_spec_KeepsChains_L0 (stK0 L os m os.length) = _
    unfold stK0
    simp [F_spec_KeepsChains_L0, nl]
def kcV (m : Int) (L : List (List Int)) (os : List Int) : Bool := orOk m os && gokB m L && (natL L).all (kpr (os.map Int.toNat))
theorem os_of {m : Int} {os : List Int} (h : orOk m os = true) : ∃ p : List Nat, os = ni p ∧ p.Nodup ∧ (∀ x ∈ p, x < m.toNat) ∧ p.length = m.toNat ∧ (1 ≤ m ∧ m ≤ 5) := by
  obtain ⟨h1, h2, h3⟩ := orOk_iff.1 h
  obtain ⟨n1, n2⟩ := orS_nodup.1 h3
  have e : os = ni (os.map Int.toNat) := by
    unfold ni
    rw [List.map_map]
    conv => lhs; rw [← List.map_id os]
    apply List.map_congr_left
    intro o ho
    have := (n1 o ho).1
    show o = ((o.toNat : Nat) : Int)
    omega
  refine ⟨os.map Int.toNat, e, ?_, fun x hx => ?_, by rw [List.length_map]; omega, h1⟩
  · refine List.pairwise_map.2 (n2.imp_of_mem fun {a b} ha hb q r => q ?_)
    have := (n1 a ha).1
    have := (n1 b hb).1
    omega
  · obtain ⟨o, ho, rfl⟩ := List.mem_map.1 hx
    have := (n1 o ho).1
    omega
theorem nd_le : ∀ {l r : List Nat}, l.Nodup → l ⊆ r → l.length ≤ r.length
  | [], _, _, _ => Nat.zero_le _
  | a :: l, r, nd, h => by
    obtain ⟨n1, n2⟩ := List.nodup_cons.1 nd
    have ha : a ∈ r := h List.mem_cons_self
    have := nd_le (r := r.erase a) n2 fun x hx => by
      have ne : x ≠ a := fun e => n1 (e ▸ hx)
      exact (List.mem_erase_of_ne ne).2 (h (List.mem_cons_of_mem _ hx))
    rw [List.length_erase_of_mem ha] at this
    have : 0 < r.length := List.length_pos_of_mem ha
    rw [List.length_cons]
    omega
theorem os_all {m : Nat} {p : List Nat} (nd : p.Nodup) (lt : ∀ x ∈ p, x < m) (hl : p.length = m) {x : Nat} (hx : x < m) : x ∈ p := by
  by_cases q : x ∈ p
  · exact q
  · have nd2 : (x :: p).Nodup := List.nodup_cons.2 ⟨q, nd⟩
    have sub : (x :: p) ⊆ List.range m := fun y hy => by
      rcases List.mem_cons.1 hy with r | r
      · rw [r]; exact List.mem_range.2 hx
      · exact List.mem_range.2 (lt y r)
    have := nd_le nd2 sub
    simp at this
    omega
set_option maxHeartbeats 4000000 in
theorem c_spec_KeepsChains (m : Int) (L : List (List Int)) (os : List Int) (hb : (L.length : Int) < 1099511627776) (hf : (L.flatten.length : Int) < 1099511627776) (hc : (os.length : Int) < 1099511627776) :
    call lf n_spec_KeepsChains [.i m, .sl 0 (L.map eR), .sl 0 (os.map .i)] = some (.b (kcV m L os), []) := by
  rw [call_k lf n_spec_KeepsChains _ (F := F_spec_KeepsChains) rfl rfl]
  have C1 := c_spec_OrderOk m os hc
  have C2 := c_spec_GroupsOk m L hb hf
  unfold kcV
  cases h1 : orOk m os with
  | false => rw [h1] at C1; simp [F_spec_KeepsChains, C1]
  | true =>
    rw [h1] at C1
    cases h2 : gokB m L with
    | false => rw [h2] at C2; simp [F_spec_KeepsChains, C1, C2]
    | true =>
      rw [h2] at C2
      obtain ⟨p, rfl, nd, lt, hl, hm⟩ := os_of h1
      obtain ⟨n, rfl⟩ := Int.eq_ofNat_of_zero_le (show 0 ≤ m by omega)
      rw [Int.toNat_natCast] at lt hl
      have hm' : 1 ≤ n ∧ n ≤ 5 := by omega
      obtain ⟨N, rfl, G⟩ := gok_of hm' h2
      have gl := gok_len G
      have cn : N.length ≤ 5 := by have := flat_ge9 G.ne; omega
      have c5 : ∀ c ∈ N, c.length ≤ 5 := fun c hc => by
        obtain ⟨A, B, e⟩ := List.append_of_mem hc
        have e2 : N.flatten.length = (A ++ c :: B).flatten.length := by rw [← e]
        rw [List.flatten_append, List.flatten_cons, List.length_append, List.length_append] at e2
        omega
      have P := kc_places (N.map ni) (os := p) (m := n) (by omega) lt
      have pl := plS_len n p p.length
      have hR : ∀ c ∈ N, ∀ x ∈ c, x < (plS n p p.length).length ∧ (plS n p p.length)[x]? = some ((p.idxOf x : Nat) : Int) := fun c hc x hx => by
        have := G.lt c hc x hx
        exact ⟨by omega, plS_idx nd lt (os_all nd lt hl this)⟩
      have O := kc_outer (os := p) cn c5 G.ne hR N 0 rfl (by simp)
      rw [natL_ni, ni_toNat, Bool.true_and, Bool.true_and]
      unfold stK0 at P
      unfold stK1 at O
      rw [pl] at O
      simp only [plS, Int.natCast_zero] at P O
      generalize plS n p p.length = R at *
      have nb : n ≤ bound := by unfold bound; omega
      have nn : ¬ (n : Int) < 0 := by omega
      have rp : (List.replicate n (0 : Int)).map DV.i = List.replicate n (.i 0) := by simp
      rw [rp] at P
      cases q : N.all (kpr p) with
      | true =>
        rw [q, if_pos rfl] at O
        generalize N.map ni = L' at *
        simp [F_spec_KeepsChains, C1, C2, P, O, nb, nn]
      | false =>
        rw [q, if_neg (by simp)] at O
        generalize N.map ni = L' at *
        simp [F_spec_KeepsChains, C1, C2, P, O, nb, nn]
end
section
attribute [-simp] DV.cells
attribute [local simp] sliceD cells_st cells_sl cells_i cells_y cells_b cells_s cells_w
attribute [local simp] lend_eR al_eR
theorem c9_bd {us : List T} (h : us.all tOk = true) : ∀ {l : List Nat}, (∀ k ∈ l, k < us.length) → 0 ≤ c9 us l ∧ c9 us l ≤ 9 * l.length * 6 ^ l.length
  | [], _ => by simp [c9, gD]
  | k :: r, hr => by
    obtain ⟨a1, a2⟩ := c9_bd h (l := r) (fun x hx => hr x (by simp [hx]))
    have cb := cA_bd h (hr k (by simp))
    have pb := pA_bd h (hr k (by simp))
    have e : c9 us (k :: r) = 6 * cA us k * 6 ^ r.length + pA us k * c9 us r := by
      unfold c9
      simp only [List.map_cons, gD, itC_M]
      have : (itC us k).2.2 - (itC us k).2.1 = pA us k := by simp [itC]; omega
      rw [this]; rfl
    have p : (0 : Int) < 6 ^ r.length := Int.pow_pos (by omega)
    rw [e]
    refine ⟨Int.add_nonneg (Int.mul_nonneg (by omega) (by omega)) (Int.mul_nonneg (by omega) a1), ?_⟩
    have x1 : 6 * cA us k * 6 ^ r.length ≤ 54 * 6 ^ r.length := Int.mul_le_mul_of_nonneg_right (by omega) (by omega)
    have x2 : pA us k * c9 us r ≤ 6 * (9 * r.length * 6 ^ r.length) := Int.mul_le_mul (by omega) a2 a1 (by omega)
    have e2' : 9 * ((k :: r).length : Int) * 6 ^ (k :: r).length = 54 * 6 ^ r.length + 6 * (9 * r.length * 6 ^ r.length) := by
      rw [List.length_cons, Int.pow_succ]
      push_cast
      grind
    omega
theorem c9_le {us : List T} (h : us.all tOk = true) {l : List Nat} (h5 : l.length ≤ 5) (hl : ∀ k ∈ l, k < us.length) : (0 ≤ c9 us l ∧ c9 us l ≤ 349920) ∧ 0 ≤ e9 us l ∧ e9 us l ≤ 7776 := by
  obtain ⟨a, b⟩ := c9_bd h hl
  have p := p6 (n := l.length) h5
  refine ⟨⟨a, Int.le_trans b ?_⟩, ?_⟩
  · have : 9 * (l.length : Int) * 6 ^ l.length ≤ 45 * 7776 := Int.mul_le_mul (by omega) p.2 (by omega) (by omega)
    omega
  · have g := gS_bd (itC_ok h hl)
    rw [itC_M] at g
    rw [e9_eq]
    omega
end
section
def gLA (us : List T) (L : LN) (f : Nat) (v : LN → Int) (i : Nat) : Option Int := match L.getD i [] with
  | [] => none
  | k :: c => some (cA us k * 6 ^ (f + 1) + pA us k * v (L.set i c))
def m0 (g : Nat → Option Int) (i : Nat) : Int := if mnO g i < 0 then 0 else mnO g i
def lA (us : List T) : Nat → LN → Int
  | 0, _ => 0
  | f + 1, L => m0 (gLA us L f (lA us f)) L.length
theorem m0_zero (g : Nat → Option Int) : m0 g 0 = 0 := rfl
theorem m0_none {g : Nat → Option Int} {i : Nat} (h : g i = none) : m0 g (i + 1) = m0 g i := by
  unfold m0; simp only [mnO, h]
theorem m0_some {g : Nat → Option Int} (h0 : ∀ i n, g i = some n → 0 < n) {i : Nat} {n : Int} (h : g i = some n) : m0 g (i + 1) = if m0 g i = 0 ∨ n < m0 g i then n else m0 g i := by
  have hn := h0 i n h
  have M := mnO_spec (f := g) (fun j k hk => Int.le_of_lt (h0 j k hk)) i
  unfold m0
  simp only [mnO, h]
  rcases M with ⟨a, _⟩ | ⟨a, ⟨j, _, j2⟩, _⟩
  · rw [a]
    simp
    omega
  · have := h0 j _ j2
    generalize mnO g i = z at *
    by_cases q : n < z
    · rw [show (if z < 0 ∨ n < z then n else z) = n from if_pos (Or.inr q), if_neg (show ¬ n < 0 by omega), if_neg (show ¬ z < 0 by omega), show (if z = 0 ∨ n < z then n else z) = n from if_pos (Or.inr q)]
    · rw [show (if z < 0 ∨ n < z then n else z) = z from if_neg (by omega), if_neg (show ¬ z < 0 by omega), show (if z = 0 ∨ n < z then n else z) = z from if_neg (by omega)]
theorem gD_cons (us : List T) (k : Nat) (row : List Nat) : gD ((k :: row).map (itC us)) = cA us k * 6 ^ (row.length + 1) + pA us k * gD (row.map (itC us)) := by
  simp only [List.map_cons, gD]
  rw [itC_M]
  have e1 : (itC us k).1 = 6 * cA us k := rfl
  have e2 : (itC us k).2.2 - (itC us k).2.1 = 6 - (6 - pA us k) := rfl
  rw [e1, e2, Int.pow_succ]
  grind
theorem lok_set {us : List T} {L : LN} (hL : LOk us L) {i k : Nat} {c : List Nat} (hc : L.getD i [] = k :: c) : k < us.length ∧ LOk us (L.set i c) ∧ (L.set i c).flatten.length + 1 = L.flatten.length := by
  obtain ⟨A, B, e1, e2, hi⟩ := set_mid hc
  have hk : k < us.length := hL (k :: c) (by rw [e1]; simp) k List.mem_cons_self
  refine ⟨hk, fun d hd x hx => ?_, ?_⟩
  · rw [e2] at hd
    rcases List.mem_append.1 hd with q | q
    · exact hL d (by rw [e1]; exact List.mem_append_left _ q) x hx
    · rcases List.mem_cons.1 q with q | q
      · exact hL (k :: c) (by rw [e1]; simp) x (List.mem_cons_of_mem _ (q ▸ hx))
      · exact hL d (by rw [e1]; exact List.mem_append_right _ (List.mem_cons_of_mem _ q)) x hx
  · rw [e2, e1]
    simp
    omega
theorem gLA_val {us : List T} {L : LN} {f : Nat} {v : LN → Int} {i : Nat} {n : Int} (h : gLA us L f v i = some n) : ∃ k c, L.getD i [] = k :: c ∧ n = cA us k * 6 ^ (f + 1) + pA us k * v (L.set i c) := by
  unfold gLA at h
  cases hc : L.getD i [] with
  | nil => rw [hc] at h; cases h
  | cons k c => rw [hc] at h; injection h with h; exact ⟨k, c, rfl, h.symm⟩
theorem p6_pos (n : Nat) : (0 : Int) < 6 ^ n := Int.pow_pos (by decide)
theorem lA_bd {us : List T} (h : us.all tOk = true) : ∀ (f : Nat) (L : LN), LOk us L → L.flatten.length = f → (0 ≤ lA us f L ∧ lA us f L ≤ 9 * f * 6 ^ f) ∧ ∀ i n, (f ≠ 0) → gLA us L (f - 1) (lA us (f - 1)) i = some n → 0 < n
  | 0, L, hL, hf => ⟨by simp [lA], fun i n q => absurd rfl q⟩
  | f + 1, L, hL, hf => by
    have val : ∀ i n, gLA us L f (lA us f) i = some n → 0 < n ∧ n ≤ 9 * (f + 1 : Nat) * 6 ^ (f + 1) := fun i n hn => by
      obtain ⟨k, c, hc, rfl⟩ := gLA_val hn
      obtain ⟨s1, s2, s3⟩ := lok_set hL hc
      obtain ⟨b1, b2⟩ := (lA_bd h f _ s2 (by omega)).1
      have c1 := cA_bd h s1
      have p1 := pA_bd h s1
      have p := p6_pos f
      generalize lA us f (L.set i c) = x at *
      generalize cA us k = q at *
      generalize pA us k = r at *
      rw [Int.pow_succ]
      have e : (9 * ((f + 1 : Nat) : Int) * (6 ^ f * 6)) = 6 * (9 * (f : Int) * 6 ^ f) + 9 * (6 ^ f * 6) := by push_cast; grind
      rw [e]
      have m1 : 0 < q * (6 ^ f * 6) := Int.mul_pos (by omega) (by omega)
      have m2 : q * (6 ^ f * 6) ≤ 9 * (6 ^ f * 6) := Int.mul_le_mul_of_nonneg_right (by omega) (by omega)
      have m3 : 0 ≤ r * x := Int.mul_nonneg (by omega) b1
      have m4 : r * x ≤ 6 * x := Int.mul_le_mul_of_nonneg_right (by omega) b1
      generalize (9 * (f : Int) * 6 ^ f) = w at *
      constructor <;> omega
    have M := mnO_spec (f := gLA us L f (lA us f)) (fun i n hn => Int.le_of_lt (val i n hn).1) L.length
    refine ⟨?_, fun i n _ hn => (val i n hn).1⟩
    simp only [lA, m0]
    have w0 : (0 : Int) ≤ 9 * ((f + 1 : Nat) : Int) * 6 ^ (f + 1) := Int.mul_nonneg (by omega) (Int.le_of_lt (p6_pos _))
    rcases M with ⟨a, _⟩ | ⟨a, ⟨i, i1, i2⟩, _⟩
    · rw [a]
      exact ⟨by decide, w0⟩
    · have := val i _ i2
      rw [if_neg (by omega)]
      exact ⟨a, this.2⟩
theorem lA_le {us : List T} (h : us.all tOk = true) : ∀ (f : Nat) (L : LN), LOk us L → L.flatten.length = f → (∃ row, Wk L row ∧ lA us f L = gD (row.map (itC us))) ∧ ∀ row, Wk L row → lA us f L ≤ gD (row.map (itC us))
  | 0, L, hL, hf => by
    have e : L.flatten = [] := List.length_eq_zero_iff.1 hf
    have hn := List.flatten_eq_nil_iff.1 e
    refine ⟨⟨[], .nil L hn, rfl⟩, fun row hr => ?_⟩
    have := wk_perm hr
    rw [e] at this
    rw [this.eq_nil]
    exact Int.le_refl _
  | f + 1, L, hL, hf => by
    have pos := (lA_bd h (f + 1) L hL hf).2
    have pos' : ∀ i n, gLA us L f (lA us f) i = some n → 0 < n := fun i n hn => pos i n (by omega) hn
    have M := mnO_spec (f := gLA us L f (lA us f)) (fun i n hn => Int.le_of_lt (pos' i n hn)) L.length
    simp only [lA, m0]
    rcases M with ⟨_, b⟩ | ⟨a, ⟨i, i1, i2⟩, c⟩
    · exfalso
      have : L.flatten = [] := by
        rw [List.flatten_eq_nil_iff]
        intro d hd
        obtain ⟨i, hi, rfl⟩ := List.getElem_of_mem hd
        have := b i hi
        have e : L.getD i [] = L[i] := by rw [List.getD_eq_getElem?_getD, List.getElem?_eq_getElem hi]; rfl
        unfold gLA at this
        rw [e] at this
        cases hc : L[i] with
        | nil => rfl
        | cons k c => rw [hc] at this; cases this
      rw [this] at hf
      cases hf
    · have p := pos' i _ i2
      rw [if_neg (by omega)]
      have wl : ∀ row, Wk L row → row.length = f + 1 := fun row hr => by rw [(wk_perm hr).length_eq]; exact hf
      refine ⟨?_, fun row hr => ?_⟩
      · obtain ⟨k, d, hc, e⟩ := gLA_val i2
        obtain ⟨s1, s2, s3⟩ := lok_set hL hc
        obtain ⟨row, r1, r2⟩ := (lA_le h f _ s2 (by omega)).1
        obtain ⟨A, B, e1, e2, hi⟩ := set_mid hc
        have rl : row.length = f := by rw [(wk_perm r1).length_eq]; omega
        refine ⟨k :: row, ?_, ?_⟩
        · rw [e1]
          rw [e2] at r1
          exact .step _ _ _ _ _ r1
        · rw [e, r2, gD_cons, rl]
      · cases hr with
        | nil L h =>
          have : L.flatten = [] := by rw [List.flatten_eq_nil_iff]; exact h
          rw [this] at hf; cases hf
        | step A B k d row hr =>
          obtain ⟨g1, g2⟩ := midS_set (A := A) (B := B) (k := k) (c := d)
          have lt : A.length < (A ++ (k :: d) :: B).length := by simp
          obtain ⟨s1, s2, s3⟩ := lok_set hL g1
          have := c A.length _ lt (by unfold gLA; rw [g1])
          have q := (lA_le h f _ s2 (by omega)).2 row (by rw [g2]; exact hr)
          have rl : row.length = f := by rw [(wk_perm hr).length_eq, ← g2]; omega
          rw [gD_cons, rl]
          have pp := pA_bd h s1
          have m := Int.mul_le_mul_of_nonneg_left q (show 0 ≤ pA us k by omega)
          omega
theorem lA_chF {us : List T} (h : us.all tOk = true) {L : LN} (hL : LOk us L) : lA us L.flatten.length L = gD ((chF us L.flatten.length L).map (itC us)) := by
  obtain ⟨⟨row, r1, r2⟩, le⟩ := lA_le h L.flatten.length L hL rfl
  obtain ⟨⟨_, row2, q1, q2⟩, le2⟩ := sC_nn h L.flatten.length L [] (fun x hx => by cases hx) hL rfl
  have e := sC_chF h hL
  rw [List.nil_append, rA_row] at q2
  have a := le _ q1
  have b := le2 _ r1
  rw [List.nil_append, rA_row] at b
  omega
end
section
attribute [-simp] DV.cells
attribute [local simp] sliceD cells_st cells_sl cells_i cells_y cells_b cells_s cells_w
attribute [local simp] lend_eR al_eR
theorem c9_snoc (us : List T) (p : List Nat) (a : Nat) : c9 us (p ++ [a]) = 6 * (c9 us p + cA us a * gS (p.map (itC us))) ∧ gS ((p ++ [a]).map (itC us)) = gS (p.map (itC us)) * pA us a := by
  unfold c9
  rw [List.map_append, gD_app, gS_app]
  have e1 : gM ([a].map (itC us)) = 6 := by simp [gM, itC]
  have e2 : gD ([a].map (itC us)) = 6 * cA us a := by simp [gD, gM, itC]
  have e3 : gS ([a].map (itC us)) = pA us a := by simp [gS, itC]; omega
  rw [e1, e2, e3]
  refine ⟨?_, rfl⟩
  grind
theorem gS_le {us : List T} (h : us.all tOk = true) {p : List Nat} (h5 : p.length ≤ 5) (hp : ∀ k ∈ p, k < us.length) : 0 ≤ gS (p.map (itC us)) ∧ gS (p.map (itC us)) ≤ 7776 := by
  have b := gS_bd (itC_ok h hp)
  have q := p6 (n := p.length) h5
  rw [itC_M] at b
  omega
def stRp (us : List T) (g : List Nat) (sum on : Int) (k : Nat) : LS := ⟨[(0, .sl 0 (us.map e2)), (1, .sl 0 ((ni g).map .i)), (4, .oad 2064 1 0 0), (5, .i sum), (6, .i on), (9, .sl 0 ((ni g).map .i)), (10, .i g.length), (11, .i k)], [(2064, [.st [.i 0, .i 0]])]⟩
set_option maxHeartbeats 4000000 in
theorem part_loop {us : List T} (h : us.all tOk = true) (g : List Nat) (h5 : g.length ≤ 5) (hg : ∀ k ∈ g, k < us.length) : ∀ (rest don : List Nat), g = don ++ rest →
    ex lf F_impl_ratioOfPart_W0 (stRp us g (c9 us don) (gS (don.map (itC us))) don.length) = some (.exit 0, stRp us g (c9 us g) (gS (g.map (itC us))) g.length) := by
  intro rest
  induction rest with
  | nil =>
    intro don e
    rw [List.append_nil] at e
    subst e
    rw [w_impl_ratioOfPart_0]
    simp [stRp, F_impl_ratioOfPart_L0]
  | cons a rest ih0 =>
    intro don e
    have I := ih0 (don ++ [a]) (by rw [e]; simp)
    have gl : g.length = don.length + (rest.length + 1) := by rw [e]; simp
    have k2 : g[don.length]? = some a := by rw [e]; simp
    have ha : a < us.length := hg a (List.mem_of_getElem? k2)
    obtain ⟨at1, _⟩ := at_ni k2
    have at2 := atT ha
    have cb := cA_bd h ha
    have pb := pA_bd h ha
    have dm : ∀ k ∈ don, k < us.length := fun k hk => hg k (by rw [e]; simp [hk])
    have d5 : don.length ≤ 5 := by omega
    have b1 := (c9_le h d5 dm).1
    have b2 := gS_le h d5 dm
    obtain ⟨s1, s2⟩ := c9_snoc us don a
    have b3 := (c9_le h (l := don ++ [a]) (by simp; omega) (fun k hk => by
      rcases List.mem_append.1 hk with q | q
      · exact dm k q
      · rw [List.mem_singleton.1 q]; exact ha)).1
    have b4 := gS_le h (p := don ++ [a]) (by simp; omega) (fun k hk => by
      rcases List.mem_append.1 hk with q | q
      · exact dm k q
      · rw [List.mem_singleton.1 q]; exact ha)
    rw [s1] at b3 I
    rw [s2] at b4 I
    rw [List.length_append, List.length_singleton] at I
    have hk : (don.length : Int) < g.length := by omega
    have hk' : don.length < g.length := by omega
    have nl := ni_len g
    have w7 := wr_succ (k := don.length) (by omega)
    rw [w_impl_ratioOfPart_0]
    unfold stRp at *
    generalize c9 us g = Z at *
    generalize gS (g.map (itC us)) = Y at *
    generalize c9 us don = S at *
    generalize gS (don.map (itC us)) = R at *
    generalize cA us a = c at *
    generalize pA us a = q at *
    generalize don.length = n at *
    have m1 : 0 ≤ c * R ∧ c * R ≤ 9 * 7776 := ⟨Int.mul_nonneg (by omega) b2.1, Int.mul_le_mul (by omega) (by omega) b2.1 (by omega)⟩
    have w2 : wr (c * R) = c * R := wr_id (by omega) (by omega)
    have w3 : wr (S + c * R) = S + c * R := wr_id (by omega) (by omega)
    have w4 : wr (6 * (S + c * R)) = 6 * (S + c * R) := wr_id (by omega) (by omega)
    have w5 : wr (R * q) = R * q := wr_id (by omega) (by omega)
    simp [F_impl_ratioOfPart_L0, hk, hk', nl, at1, at2, ha, w2, w3, w4, w5, w7, I, -Int.natCast_add]
set_option maxHeartbeats 1000000 in
theorem c_ratioOfPart {us : List T} (h : tsOk us = true) {g : List Nat} (h5 : g.length ≤ 5) (hg : ∀ k ∈ g, k < us.length) :
    call lf n_impl_ratioOfPart [.sl 0 (us.map e2), .sl 0 ((ni g).map .i)] = some (.st [.i (c9 us g), .i (e9 us g)], []) := by
  rw [call_k lf n_impl_ratioOfPart _ (F := F_impl_ratioOfPart) rfl rfl]
  have h' := tsOk_iff.1 h
  have I := part_loop h'.2 g h5 hg g [] rfl
  have W := c_impl_wholeOf (n := g.length) h5
  have b := gS_le h'.2 h5 hg
  have pk := p6 (n := g.length) h5
  have e0 : c9 us [] = 0 := rfl
  have e1 : gS (([] : List Nat).map (itC us)) = 1 := rfl
  rw [e0, e1] at I
  rw [e9_eq]
  have nl := ni_len g
  unfold stRp at I
  simp only [List.length_nil, Int.natCast_zero] at I
  generalize gS (g.map (itC us)) = S at *
  generalize c9 us g = D at *
  generalize (6 : Int) ^ g.length = P at *
  have w : wr (P - S) = P - S := wr_id (by omega) (by omega)
  simp [F_impl_ratioOfPart, I, W, nl, w]
set_option maxHeartbeats 1000000 in
theorem c_impl_FirstRatio (us : List T) (L : List (List Int)) (at_ many : Int) (ha : (us.length : Int) < 1099511627776) (hb : (L.length : Int) < 1099511627776) (hf : (L.flatten.length : Int) < 1099511627776) :
    call lf n_impl_FirstRatio [.sl 0 (us.map e2), .sl 0 (L.map eR), .i at_, .i many] = some (.tup [.i (frC us L at_ many), .i (frE us L at_ many), .b (frO us L at_ many)], []) := by
  rw [call_k lf n_impl_FirstRatio _ (F := F_impl_FirstRatio) rfl rfl]
  have C1 := c_impl_TestsOk us ha
  have C2 := c_impl_GroupsOk us.length L hb
  have w1 : wr ((L.length : Int) - 1) = L.length - 1 := wr_id (by omega) (by omega)
  have C3 := c_impl_isWithin at_ 0 (L.length - 1)
  unfold frC frE frO
  cases h : gkO us L at_ with
  | false =>
    unfold gkO at h
    rw [Bool.false_and]
    cases h1 : tsOk us with
    | false => rw [h1] at C1; simp [F_impl_FirstRatio, C1]
    | true =>
      rw [h1] at C1 h
      cases h2 : gokB us.length L with
      | false => rw [h2] at C2; simp [F_impl_FirstRatio, C1, C2]
      | true =>
        rw [h2] at C2 h
        rw [Bool.true_and, Bool.true_and] at h
        rw [h] at C3
        simp [F_impl_FirstRatio, C1, C2, C3, w1]
  | true =>
    obtain ⟨N, i, g, rfl, G, rfl, e1, e2, g5, gl⟩ := gkO_at h
    unfold gkO at h
    simp only [Bool.and_eq_true] at h
    obtain ⟨⟨h1, h2⟩, h3⟩ := h
    rw [h1] at C1
    rw [h2] at C2
    rw [h3] at C3
    have at1 : atI ((N.map ni).map eR) (i : Int) = some (.sl 0 ((ni g).map .i)) := at_eR (by rw [List.getElem?_map, e1]; rfl)
    have i0 : (i : Int) < (N.map ni).length := by have := (List.getElem?_eq_some_iff.1 e1).1; simp; omega
    have nl := ni_len g
    have C6 := c_impl_isWithin many 1 g.length
    rw [e2, Bool.true_and]
    cases h4 : decide (1 ≤ many ∧ many ≤ (g.length : Int)) with
    | false =>
      rw [h4] at C6
      generalize N.map ni = L at *
      simp [F_impl_FirstRatio, C1, C2, C3, C6, w1, at1, i0, nl]
    | true =>
      rw [h4] at C6
      obtain ⟨m1, m2⟩ := of_decide_eq_true h4
      obtain ⟨n, rfl⟩ := Int.eq_ofNat_of_zero_le (show 0 ≤ many by omega)
      have C4 := c_ratioOfPart h1 (g := g.take n) (by rw [List.length_take]; omega) (fun k hk => gl k (List.mem_of_mem_take hk))
      have tk : List.take n ((ni g).map DV.i) = (ni (g.take n)).map .i := by unfold ni; simp
      have n0 : n ≤ g.length := by omega
      rw [Int.toNat_natCast]
      generalize N.map ni = L at *
      simp [F_impl_FirstRatio, C1, C2, C3, C4, C6, w1, at1, i0, nl, tk, n0]
end
section
attribute [local simp] lend_eR al_eR lend_eN adopt_eN new_eN
theorem frows {L : List (List Int)} {n : Nat} (zF : (L.flatten.length : Int) ≤ n) : ∀ r ∈ L, (r.length : Int) ≤ n := fun r hr => by
  obtain ⟨A, B, rfl⟩ := List.append_of_mem hr
  simp only [List.flatten_append, List.flatten_cons, List.length_append] at zF
  omega
set_option maxHeartbeats 4000000 in
theorem law_FnExactFirstRatio (us : List T) (hu : us.length ≤ Go.maxLen) (L : List (List Int)) (hL : L.length ≤ Go.maxLen ∧ ∀ r ∈ L, r.length ≤ Go.maxLen) (a : Int) (_ : -9223372036854775808 ≤ a ∧ a ≤ 9223372036854775807) (m : Int) (_ : -9223372036854775808 ≤ m ∧ m ≤ 9223372036854775807) : call lf n_laws_FnExactFirstRatio [rs2 us, rss L, .i a, .i m] = some (.b true, []) := by
  show call lf n_laws_FnExactFirstRatio [.sl 0 (us.map e2), .sl 0 (L.map eR), .i a, .i m] = _
  rw [call_k lf n_laws_FnExactFirstRatio _ (F := F_laws_FnExactFirstRatio) rfl rfl]
  have hw : (us.length : Int) ≤ 9223372036854775807 := by unfold Go.maxLen at hu; omega
  have S0 := c_szTestS us 1048576 (by omega) (by omega) hw
  by_cases h : (1048576 : Int) < us.length
  · simp [F_laws_FnExactFirstRatio, S0, h]
  · have n1 : ¬ ((1048576 : Int) - us.length < 0) := by omega
    have A0 := c_toTestS us (by omega)
    have Q0 := c_eqTestS_self us (by omega)
    rcases c_szIntSS L (1048576 - us.length) (by omega) hL.1 hL.2 with S | ⟨z, z0, z1, zL, zF, S⟩
    · simp [F_laws_FnExactFirstRatio, S0, S, h, n1]
    · have n0 : ¬ z < 0 := by omega
      have hr := frows (L := L) (n := 1048576) (by omega)
      have A := c_toIntSS L (by omega) hr
      have Q := c_eqIntSS_self L (by omega) hr
      have C1 := c_impl_FirstRatio us L a m (by omega) (by omega) (by omega)
      have C2 := c_spec_FirstRatio us L a m (by omega) (by omega) (by omega)
      generalize frC us L a m = x at *
      generalize frE us L a m = y at *
      generalize frO us L a m = b at *
      have tk : List.take L.length (L.map eN) = L.map eN := List.take_of_length_le (by simp)
      simp (config := { maxSteps := 2000000 }) [F_laws_FnExactFirstRatio, S0, S, h, n0, n1, A0, Q0, A, Q, C1, C2, tk]
end
section
attribute [-simp] DV.cells
attribute [local simp] sliceD cells_st cells_sl cells_i cells_y cells_b cells_s cells_w
attribute [local simp] lend_eR al_eR
theorem l_IndexN (a : Nat) (A : List Nat) (hA : A.length ≤ 1000) : ∀ (r : List Nat) (k : Nat), A.drop k = r → k + r.length = A.length → a ∈ r →
    ex lf F_slices_Index_int_int_W0 ⟨[(0, .sl 0 ((ni A).map .i)), (1, .i a), (7, .i A.length), (8, .i k)], []⟩ = some (.ret, ⟨[(4, .i ((k + r.idxOf a : Nat) : Int))], []⟩) := by
  intro r
  induction r with
  | nil => intro k hd hk hm; cases hm
  | cons b r ih0 =>
    intro k hd hk hm
    obtain ⟨k1, k2, k3⟩ := drop_cons hd
    have k1' : (k : Int) < A.length := by omega
    obtain ⟨at1, _⟩ := at_ni k2
    simp only [List.length_cons] at hk
    have w1 := wr_succ (k := k) (by omega)
    have nl := ni_len A
    rw [w_slices_Index_int_int_0]
    by_cases h : a = b
    · subst h
      have e : (a :: r).idxOf a = 0 := by simp
      rw [e, Nat.add_zero]
      simp [F_slices_Index_int_int_L0, k1, k1', at1, nl]
    · have hb : ((a : Int) == (b : Int)) = false := by simp; omega
      have hb' : ¬ (a : Int) = b := by omega
      have e : (b :: r).idxOf a = r.idxOf a + 1 := idx_ne (fun q => h q.symm)
      have ih := ih0 (k + 1) k3 (by omega) (by rcases List.mem_cons.1 hm with q | q; exact absurd q h; exact q)
      rw [e, show k + (r.idxOf a + 1) = k + 1 + r.idxOf a by omega]
      simp [F_slices_Index_int_int_L0, k1, k1', at1, nl, hb, hb', h, w1, ih, -Int.natCast_add]
theorem c_IndexN {a : Nat} {A : List Nat} (hA : A.length ≤ 1000) (h : a ∈ A) : call lf n_slices_Index_int_int [.sl 0 ((ni A).map .i), .i a] = some (.i ((A.idxOf a : Nat) : Int), []) := by
  rw [call_k lf n_slices_Index_int_int _ (F := F_slices_Index_int_int) rfl rfl]
  have I := l_IndexN a A hA A 0 rfl (by simp) h
  have nl := ni_len A
  rw [Nat.zero_add, Int.natCast_zero] at I
  generalize A.idxOf a = j at *
  simp [F_slices_Index_int_int, I, nl]
set_option maxHeartbeats 1000000 in
theorem c_byPlace {a b : Nat} {A : List Nat} (hA : A.length ≤ 1000) (ha : a ∈ A) (hb : b ∈ A) : call lf n_impl_KeepsChains_1 [.i a, .i b, .adr (.sl 0 ((ni A).map .i))] = some (.i ((A.idxOf a : Nat) - (A.idxOf b : Nat) : Int), []) := by
  rw [call_k lf n_impl_KeepsChains_1 _ (F := F_impl_KeepsChains_1) rfl rfl]
  have I := c_IndexN hA ha
  have J := c_IndexN hA hb
  have x := List.idxOf_lt_length_of_mem ha
  have y := List.idxOf_lt_length_of_mem hb
  have w : wr (((A.idxOf a : Nat) : Int) - ((A.idxOf b : Nat) : Int)) = (A.idxOf a : Nat) - (A.idxOf b : Nat) := wr_id (by omega) (by omega)
  generalize A.idxOf a = i at *
  generalize A.idxOf b = j at *
  simp [F_impl_KeepsChains_1, I, J, w]
def kS (os row : List Nat) (n : Nat) : Bool := (List.range n).all fun j => decide (os.idxOf (row.getD j 0) ≤ os.idxOf (row.getD (j + 1) 0))
theorem kS_succ (os row : List Nat) (n : Nat) : kS os row (n + 1) = (kS os row n && decide (os.idxOf (row.getD n 0) ≤ os.idxOf (row.getD (n + 1) 0))) := by
  unfold kS
  rw [List.range_succ, List.all_append]
  simp
theorem kpr_kS (os : List Nat) : ∀ row : List Nat, kpr os row = kS os row (row.length - 1)
  | [] => rfl
  | [a] => rfl
  | a :: b :: r => by
    have ih := kpr_kS os (b :: r)
    show (decide (os.idxOf a ≤ os.idxOf b) && kpr os (b :: r)) = kS os (a :: b :: r) (r.length + 1)
    rw [ih]
    unfold kS
    rw [show (b :: r).length - 1 = r.length by simp, List.range_succ_eq_map, List.all_cons, List.all_map]
    rfl
def stSs (os row : List Nat) (i : Int) : LS := ⟨[(0, .sl 0 ((ni row).map .i)), (1, .fn n_impl_KeepsChains_1 [.adr (.sl 0 ((ni os).map .i))]), (5, .i i)], []⟩
set_option maxHeartbeats 4000000 in
theorem l_sorted {os row : List Nat} (hA : os.length ≤ 1000) (hr : ∀ x ∈ row, x ∈ os) (h5 : row.length ≤ 1000) : ∀ n : Nat, n ≤ row.length - 1 →
    ex lf F_slices_IsSortedFunc_int_int_W0 (stSs os row (n : Nat)) = if kS os row n then some (.exit 0, stSs os row 0) else some (.ret, ⟨[(4, .b false)], []⟩) := by
  intro n
  induction n with
  | zero =>
    intro _
    rw [w_slices_IsSortedFunc_int_int_0]
    unfold stSs
    simp [F_slices_IsSortedFunc_int_int_L0, kS]
  | succ n ih =>
    intro hn
    have I := ih (by omega)
    rw [kS_succ, w_slices_IsSortedFunc_int_int_0]
    have k0 : row[n]? = some (row.getD n 0) := by rw [List.getD_eq_getElem?_getD, List.getElem?_eq_getElem (by omega)]; rfl
    have k1 : row[n + 1]? = some (row.getD (n + 1) 0) := by rw [List.getD_eq_getElem?_getD, List.getElem?_eq_getElem (by omega)]; rfl
    obtain ⟨at0, _⟩ := at_ni k0
    obtain ⟨at1, _⟩ := at_ni k1
    have m0 := hr _ (List.mem_of_getElem? k0)
    have m1 := hr _ (List.mem_of_getElem? k1)
    have C := c_byPlace hA m1 m0
    have nl := ni_len row
    have w1 : wr (((n + 1 : Nat) : Int) - 1) = (n : Nat) := by rw [wr_id (by omega) (by omega)]; omega
    have h0 : (0 : Int) < ((n + 1 : Nat) : Int) := by omega
    have h0' : 0 < n + 1 := by omega
    have h1 : ((n + 1 : Nat) : Int) < row.length := by omega
    have h2 : (n : Int) < row.length := by omega
    have h1' : n + 1 < row.length := by omega
    have h2' : n < row.length := by omega
    unfold stSs at *
    generalize row.getD n 0 = x at *
    generalize row.getD (n + 1) 0 = y at *
    generalize os.idxOf x = i at *
    generalize os.idxOf y = j at *
    generalize kS os row n = b at *
    generalize hN : n + 1 = N at *
    by_cases q : i ≤ j
    · have q' : ¬ ((j : Int) - (i : Int) < 0) := by omega
      rw [decide_eq_true q, Bool.and_true]
      simp [F_slices_IsSortedFunc_int_int_L0, at0, at1, C, nl, w1, h0, h0', h1, h2, h1', h2', q', I, -Int.natCast_add]
    · have q' : ((j : Int) - (i : Int) < 0) := by omega
      rw [decide_eq_false q, Bool.and_false]
      simp [F_slices_IsSortedFunc_int_int_L0, at0, at1, C, nl, w1, h0, h0', h1, h2, h1', h2', q', -Int.natCast_add]
set_option maxHeartbeats 1000000 in
theorem c_IsSorted {os row : List Nat} (hA : os.length ≤ 1000) (hr : ∀ x ∈ row, x ∈ os) (h5 : row.length ≤ 1000) (hn : row ≠ []) :
    call lf n_slices_IsSortedFunc_int_int [.sl 0 ((ni row).map .i), .fn n_impl_KeepsChains_1 [.adr (.sl 0 ((ni os).map .i))]] = some (.b (kpr os row), []) := by
  rw [call_k lf n_slices_IsSortedFunc_int_int _ (F := F_slices_IsSortedFunc_int_int) rfl rfl]
  have l0 : 1 ≤ row.length := List.length_pos_iff.2 hn
  have I := l_sorted hA hr h5 (row.length - 1) (Nat.le_refl _)
  have nl := ni_len row
  have w1 : wr ((row.length : Int) - 1) = ((row.length - 1 : Nat) : Int) := by rw [wr_id (by omega) (by omega)]; omega
  rw [kpr_kS]
  unfold stSs at I
  cases h : kS os row (row.length - 1) with
  | true =>
    rw [h, if_pos rfl] at I
    simp [F_slices_IsSortedFunc_int_int, I, nl, w1]
  | false =>
    rw [h, if_neg (by simp)] at I
    simp [F_slices_IsSortedFunc_int_int, I, nl, w1]
def stKc (os : List Nat) (L : LN) (k : Nat) : LS := ⟨[(7, .fn n_impl_KeepsChains_1 [.adr (.sl 0 ((ni os).map .i))]), (21, .sl 0 ((L.map ni).map eR)), (22, .i L.length), (23, .i k)], []⟩
set_option maxHeartbeats 4000000 in
theorem kc_loop {os : List Nat} {L : LN} (hA : os.length ≤ 1000) (hr : ∀ c ∈ L, c ≠ [] ∧ c.length ≤ 1000 ∧ ∀ x ∈ c, x ∈ os) (hL : L.length ≤ 1000) : ∀ (r : LN) (k : Nat), L.drop k = r → k + r.length = L.length →
    ex lf F_impl_KeepsChains_W0 (stKc os L k) = if r.all (kpr os) then some (.exit 0, stKc os L L.length) else some (.ret, ⟨[(6, .b false)], []⟩) := by
  have ll : (L.map ni).length = L.length := by simp
  intro r
  induction r with
  | nil =>
    intro k hd hk
    have e : k = L.length := by simpa using hk
    subst e
    rw [w_impl_KeepsChains_0]
    unfold stKc
    simp [F_impl_KeepsChains_L0]
  | cons c r ih0 =>
    intro k hd hk
    obtain ⟨k1, k2, k3⟩ := drop_cons hd
    have k1' : (k : Int) < L.length := by omega
    simp only [List.length_cons] at hk
    have I := ih0 (k + 1) k3 (by omega)
    obtain ⟨c1, c2, c3⟩ := hr c (List.mem_of_getElem? k2)
    have C := c_IsSorted hA c3 c2 c1
    have A := at_eR (A := L.map ni) (k := k) (r := ni c) (by rw [List.getElem?_map, k2]; rfl)
    have w1 := wr_succ (k := k) (by omega)
    rw [w_impl_KeepsChains_0, List.all_cons]
    unfold stKc at *
    cases hq : kpr os c with
    | true =>
      rw [hq] at C
      rw [Bool.true_and, ← I]
      generalize ex lf F_impl_KeepsChains_W0 = E at *
      generalize L.map ni = L' at *
      simp [F_impl_KeepsChains_L0, k1, k1', ll, A, C, w1, -Int.natCast_add]
    | false =>
      rw [hq] at C
      rw [Bool.false_and, if_neg (by simp)]
      generalize L.map ni = L' at *
      simp [F_impl_KeepsChains_L0, k1, k1', ll, A, C, w1, -Int.natCast_add]
set_option maxHeartbeats 4000000 in
theorem c_impl_KeepsChains (m : Int) (L : List (List Int)) (os : List Int) (hb : (L.length : Int) < 1099511627776) (hf : (L.flatten.length : Int) < 1099511627776) (hc : (os.length : Int) < 1099511627776) :
    call lf n_impl_KeepsChains [.i m, .sl 0 (L.map eR), .sl 0 (os.map .i)] = some (.b (kcV m L os), []) := by
  rw [call_k lf n_impl_KeepsChains _ (F := F_impl_KeepsChains) rfl rfl]
  have C1 := c_impl_OrderOk m os hc
  have C2 := c_impl_GroupsOk m L hb
  unfold kcV
  cases h1 : orOk m os with
  | false => rw [h1] at C1; simp [F_impl_KeepsChains, C1]
  | true =>
    rw [h1] at C1
    cases h2 : gokB m L with
    | false => rw [h2] at C2; simp [F_impl_KeepsChains, C1, C2]
    | true =>
      rw [h2] at C2
      obtain ⟨p, rfl, nd, lt, hl, hm⟩ := os_of h1
      obtain ⟨n, rfl⟩ := Int.eq_ofNat_of_zero_le (show 0 ≤ m by omega)
      rw [Int.toNat_natCast] at lt hl
      have hm' : 1 ≤ n ∧ n ≤ 5 := by omega
      obtain ⟨N, rfl, G⟩ := gok_of hm' h2
      have gl := gok_len G
      have cn : N.length ≤ 5 := by have := flat_ge9 G.ne; omega
      have c5 : ∀ c ∈ N, c.length ≤ 5 := fun c hc => by
        obtain ⟨A, B, e⟩ := List.append_of_mem hc
        have e2 : N.flatten.length = (A ++ c :: B).flatten.length := by rw [← e]
        rw [List.flatten_append, List.flatten_cons, List.length_append, List.length_append] at e2
        omega
      have O := kc_loop (os := p) (L := N) (by omega) (fun c hc => ⟨G.ne c hc, by have := c5 c hc; omega, fun x hx => os_all nd lt hl (G.lt c hc x hx)⟩) (by omega) N 0 rfl (by simp)
      rw [natL_ni, ni_toNat, Bool.true_and, Bool.true_and]
      unfold stKc at O
      simp only [Int.natCast_zero] at O
      have ll : (N.map ni).length = N.length := by simp
      cases q : N.all (kpr p) with
      | true =>
        rw [q, if_pos rfl] at O
        generalize N.map ni = L' at *
        simp [F_impl_KeepsChains, C1, C2, O, ll]
      | false =>
        rw [q, if_neg (by simp)] at O
        generalize N.map ni = L' at *
        simp [F_impl_KeepsChains, C1, C2, O, ll]
end
section
attribute [local simp] lend_eR al_eR lend_eN adopt_eN new_eN
set_option maxHeartbeats 4000000 in
theorem law_FnExactKeepsChains (m : Int) (_ : -9223372036854775808 ≤ m ∧ m ≤ 9223372036854775807) (L : List (List Int)) (hL : L.length ≤ Go.maxLen ∧ ∀ r ∈ L, r.length ≤ Go.maxLen) (o : List Int) (ho : o.length ≤ Go.maxLen) : call lf n_laws_FnExactKeepsChains [.i m, rss L, ins o] = some (.b true, []) := by
  show call lf n_laws_FnExactKeepsChains [.i m, .sl 0 (L.map eR), .sl 0 (o.map .i)] = _
  rw [call_k lf n_laws_FnExactKeepsChains _ (F := F_laws_FnExactKeepsChains) rfl rfl]
  by_cases h : (1048576 : Int) < o.length
  · simp [F_laws_FnExactKeepsChains, h]
  · rcases c_szIntSS L 1048576 (by omega) hL.1 hL.2 with S | ⟨z, z0, z1, zL, zF, S⟩
    · simp [F_laws_FnExactKeepsChains, S, h]
    · have n0 : ¬ z < 0 := by omega
      have hr : ∀ r ∈ L, (r.length : Int) ≤ 1048576 := fun r hr => by
        obtain ⟨A, B, rfl⟩ := List.append_of_mem hr
        simp only [List.flatten_append, List.flatten_cons, List.length_append] at zF
        omega
      have A := c_toIntSS L (by omega) hr
      have Q := c_eqIntSS_self L (by omega) hr
      have A2 := c_toIntS o (by omega)
      have Q2 := c_eqIntS_self o (by omega)
      have C1 := c_impl_KeepsChains m L o (by omega) (by omega) (by omega)
      have C2 := c_spec_KeepsChains m L o (by omega) (by omega) (by omega)
      generalize kcV m L o = b at *
      have tk : List.take L.length (L.map eN) = L.map eN := List.take_of_length_le (by simp)
      simp (config := { maxSteps := 2000000 }) [F_laws_FnExactKeepsChains, S, h, n0, A, Q, A2, Q2, C1, C2, tk]
end
section
attribute [-simp] DV.cells
attribute [local simp] sliceD cells_st cells_sl cells_i cells_y cells_b cells_s cells_w
attribute [local simp] lend_eR al_eR
def eP (p : Nat) (row : List Int) : DV := .sl p (row.map .i)
theorem eP_zero : eP 0 = eR := rfl
theorem adopt_eRP (o : Bool) (L : List (List Int)) : adoptL o (L.map eR) = L.map (eP (adoptP o 0)) := by
  rw [adoptL_map, List.map_map]
  apply List.map_congr_left
  intro r _
  simp [eP, eR, DV.adopt]
theorem cells_eR {L : List (List Int)} : ∀ e ∈ L.map eR, e.cells.length = 1 := fun e he => by
  obtain ⟨r, _, rfl⟩ := List.mem_map.1 he
  rfl
theorem c_cloneR {L : List (List Int)} (hb : L.length ≤ 1000) (hn : L ≠ []) : call lf n_slices_Clone_int_int [.sl 0 (L.map eR)] = some (.fr 1 (L.map eR), []) := by
  rw [call_k lf n_slices_Clone_int_int _ (F := F_slices_Clone_int_int) rfl rfl]
  have bd : L.length ≤ bound := by unfold bound; omega
  have w := cells_eR (L := L)
  have e : (L.map eR).length = L.length := by simp
  have hn' : L.map eR ≠ [] := by simpa using hn
  generalize L.map eR = M at *
  rw [← e] at bd
  simp [F_slices_Clone_int_int, bd, if_pos w, hn']

theorem set_eR (L : LN) (a b : Nat) (ha : a < L.length) : ((L.map ni).map eR).set a (.sl 0 (List.drop b ((ni L[a]).map .i))) = ((L.set a ((L.getD a []).drop b)).map ni).map eR := by
  have e : L.getD a [] = L[a] := by rw [List.getD_eq_getElem?_getD, List.getElem?_eq_getElem ha]; rfl
  rw [e, List.map_set, List.map_set]
  congr 1
  simp [eR, ni, List.map_drop]
set_option maxHeartbeats 1000000 in
theorem c_behindPart {L : LN} (hL : L.length ≤ 5) {a b : Nat} (ha : a < L.length) (hb : b ≤ (L.getD a []).length) (h5 : (L.getD a []).length ≤ 5) :
    call lf n_impl_behindPart [.sl 0 ((L.map ni).map eR), .st [.i a, .i b]] = some (.sl 1 (((L.set a ((L.getD a []).drop b)).map ni).map eR), []) := by
  rw [call_k lf n_impl_behindPart _ (F := F_impl_behindPart) rfl rfl]
  have e : L.getD a [] = L[a] := by rw [List.getD_eq_getElem?_getD, List.getElem?_eq_getElem ha]; rfl
  have C := c_cloneR (L := L.map ni) (by simp; omega) (fun q => by rw [List.map_eq_nil_iff] at q; subst q; simp at ha)
  have A := at_C ha
  have An : atN ((L.map ni).map eR) a = some (.sl 0 ((ni L[a]).map .i)) := by
    simp only [atI, if_pos (Int.natCast_nonneg a), Int.toNat_natCast] at A
    exact A
  have S := set_eR L a b ha
  have ll : ((L.map ni).map eR).length = L.length := by simp
  have ha' : (a : Int) < L.length := by omega
  have nl := ni_len L[a]
  rw [e] at hb h5 S ⊢
  have ao := adopt_eRP true (L.map ni)
  have ap : adoptP true 0 = 0 := rfl
  rw [ap, eP_zero] at ao
  have w := cells_eR (L := L.map ni)
  generalize L[a] = c at *
  have lM : (((L.set a (c.drop b)).map ni).map eR).length = L.length := by simp
  have tk : List.take c.length ((ni c).map DV.i) = (ni c).map .i := List.take_of_length_le (by simp [nl])
  generalize (((L.set a (c.drop b)).map ni).map eR) = M' at *
  have tM : List.take L.length M' = M' := List.take_of_length_le (by omega)
  have aL := al_eR (L.map ni)
  have le := lend_eR (L.map ni)
  generalize (L.map ni).map eR = M at *
  simp [F_impl_behindPart, C, A, An, S, tk, tM, lM, ll, ha, ha', nl, hb, ao, w, aL, le]
def s1 (st : Option (Nat × Nat)) : Prop := ∀ a b, st = some (a, b) → 1 ≤ b
end
end Zz
