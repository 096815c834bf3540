/- What the functions answer, as equations: EA. No conditions. -/
import Derived.Test.YtahkmbihhkjebabIrzm
import Derived.Test.YtahkmbihhkjebabE0
set_option linter.unusedSectionVars false
set_option linter.unusedVariables false
set_option linter.unusedSimpArgs false
namespace Zz
open Go.Lg Md
set_option linter.unusedSimpArgs false
set_option linter.unusedVariables false
attribute [local simp] tm_mv tm_newnil tm_pick tm_bin tm_eqb tm_eqs tm_un tm_len tm_lens tm_chk tm_fld tm_fldv tm_idxa tm_idx tm_load tm_store tm_slice tm_slices tm_make tm_alloc tm_box tm_build tm_app tm_conv tm_ext tm_call tm_calld tm_mkfn tm_mm tm_idxp tm_eqn tm_callg tm_callm tm_bslice0 tm_bslice1 tm_bslice2 tm_bslice nt_nil nt_cons nc_nil' nc_cons sa_mkfn cv_adr cv_i cv_y cv_b cv_w sa_calld nm_def nh_nil nh_cons nxM_some nxM_none sc_st sd_i sd_y sd_b sd_s sd_w sd_q sc_i sc_y sc_b sc_s sc_w sc_q sa_bslice sa_app nc_own nc_nil sa_call sa_alloc sa_build sa_callm rm_nil rm_gen bq_mul bq_eql ia_mv ia_newnil ia_pick ia_bin ia_eqb ia_eqs ia_un ia_len ia_lens ia_chk ia_fld ia_fldv ia_idxa ia_idx ia_load ia_store ia_slice ia_slices ia_make ia_alloc ia_box ia_build ia_bslice ia_app ia_b2i ia_i2b ia_i2i ia_same ia_b2s ia_s2b ia_ext ia_mm ia_idxp ia_calld ia_mkfn ia_i2r ia_r2s ia_call pt_nil pt_cons mi_nil mi_cons md_bslice md_mv md_newnil md_pick md_bin md_eqb md_un md_len md_lens md_fld md_fldv md_idxa md_idx md_load md_store md_slice md_slices md_make md_alloc md_box md_build md_app md_conv md_ext md_call md_calld md_callg md_mkfn md_mm md_idxp md_eqn md_eqs md_chk tg_bslice tg_mv tg_newnil tg_pick tg_bin tg_eqb tg_un tg_len tg_lens tg_fld tg_fldv tg_idxa tg_idx tg_load tg_store tg_slice tg_slices tg_make tg_alloc tg_box tg_build tg_app tg_conv tg_ext tg_call tg_calld tg_callg tg_mkfn tg_mm tg_idxp tg_eqn tg_eqs tg_chk rp_eq ro_eq ifP_t ifP_f np_def ng1_nil ng2_nil ng_gate ng_gen tgA_t tgA_0 tgA_1 tgA_2 aC_nil aC_c aC_t nxP_some nxP_none rq_nil rq_gen rq_gate nxR_some nxR_none ru_nil ru_gen ru_gate pl_none pl_some gt_nil gt_t gt_c di_some di_none an_nil an_cons nxG_some nxG_none rg_nil rg_gen rg_gate oldO_some oa_nil oa_i oa_y oa_b oa_s oa_st oa_sl oa_own oa_oad oa_nl al_nil al_cons al_i al_y al_b al_s al_st al_sl nxF_some nxF_none rf_nil rf_gen rf_gate hk_newnil hk_make hk_alloc hk_box hk_build hk_bslice hk_call hk_store hk_app hk_appn em_cel mm_cel ok_cel ov_cel so_cel il_cel oi_cel oj_cel ol_cel nm_cel hk_appc ef_bslice5 ef_app_cel ks_shut shu_own shc_none shc_cel cl_nil cl_cons ai_nil ai_cons il_i il_y il_b il_s il_st il_sl il_own il_adr il_oad il_ref il_fr il_tup il_nil il_np il_und il_dead ol_adr ol_b ol_dead ol_e ol_fn ol_fr ol_i ol_nil ol_np ol_oad ol_own ol_q ol_r ol_ref ol_s ol_sl ol_st ol_tup ol_und ol_w ol_y oj_e oj_i oj_y oj_b oj_s oj_st oj_sl oj_own oj_adr oj_oad oj_ref oj_fr oj_tup oj_nil oj_np oj_und oj_dead oj_w oj_q oj_r oj_fn oi_e oi_i oi_y oi_b oi_s oi_st oi_sl oi_own oi_adr oi_oad oi_ref oi_fr oi_tup oi_nil oi_np oi_und oi_dead as_nil as_cons ao_nil ao_cons av_i av_y av_b av_s av_st av_sl av_own av_adr av_oad av_ref av_fr av_tup av_nil av_np av_und av_dead pro_cons ghK_some ks_promote ks_freeze frz_own ks_rename ren_own dropO adoptP newP wholeP cutP allOldL ex_skip ex_ret ex_exit ks_region ks_seq ks_cond ks_block seqK_n seqK_e seqK_r regK_some condK_t condK_f blkK_n blkK_r blkK_e endK_n endK_r rr_false rr_true rd_free mo_nil mo_cons drK_some drK_none nxW_some nxW_none rw_nil rw_gen rw_gate ak_newnil ak_make ak_alloc ak_box ak_build ak_bslice ak_call ak_store ak_app iw_mm iw_eqn iw_idxp ef_callg cgK_some gv_e gv_own gv_i gv_sl gv_st gv_b gv_nil gvK_some gvO_some iw_callg ia_callg ak_callg hk_callg is_mv is_newnil is_pick is_bin is_eqb is_eqs is_un is_len is_lens is_chk is_fld is_fldv is_idxa is_idx is_load is_slice is_slices is_make is_alloc is_box is_build is_bslice is_app is_conv is_ext is_call is_calld is_callg is_mkfn is_mm is_idxp is_eqn is_store rt_nil rt_gen rt_gate nxT_some nxT_none ef_eqn_nil ef_eqn_sl ef_eqn_own ia_eqn ef_mmx ef_mmn ef_idxp nxD_some nxD_none ov_i ov_y ov_b ov_s ov_st ov_sl ov_own ov_oad ov_adr ov_nil ov_np ov_und ov_dead ov_tup oldN_some oldN_nil oldN_none so_none so_i so_y so_b so_s so_st so_sl so_adr so_nil so_np so_und so_dead anyM_nil anyM_t anyM_c so_own so_oad rd_nil rd_gen rd_mv rd_gate iw_mv iw_newnil iw_pick iw_bin iw_eqb iw_eqs iw_un iw_len iw_lens iw_chk iw_fld iw_fldv iw_idxa iw_idx iw_load iw_store iw_slice iw_slices iw_make iw_alloc iw_box iw_build iw_bslice iw_app iw_b2i iw_i2b iw_i2i iw_same iw_b2s iw_s2b iw_ext iw_call nm_i nm_y nm_b nm_s nm_st nm_sl nm_own nm_oad nm_adr nm_nil nm_np nm_und nm_dead nm_tup rl_nil rl_gate rl_mv rl_gen opv_t opv_c nx_some nx_none gate_tt gate_tf gate_ft gate_ff gate_u fr_ap em_nil em_i em_y em_b em_s em_st em_sl em_own em_adr em_oad em_ref em_nl em_np em_und em_dead em_tup0 em_tup_i em_tup_b em_tup_s em_tup_sl em_tup_st em_tup_np em_tup_own em_tup_oad mm_i mm_y mm_b mm_s mm_st mm_sl mm_own mm_oad mm_adr mm_nil mm_np mm_und mm_dead ef_mv ef_newnil ef_pickt ef_pickf ef_bin ef_eqb ef_eqs ef_un ef_lens ef_len_sl ef_len_own ef_len_nil ef_chk_adr ef_chk_oad ef_fld_adr ef_fld_oad ef_fldv idxR_some ef_idxa_sl ef_idxa_own ef_idx ef_load_adr_st ef_load_adr_i ef_load_adr_y ef_load_adr_b ef_load_adr_s ef_load_adr_sl atN_nil atN_zero atN_succ ef_load_oad ef_store ef_slice ef_slices ef_make ef_alloc ef_box ef_build ef_bslice ef_app_own ef_app_nil ef_b2i ef_i2b ef_i2i ef_same ef_ext ret1 ret2_some calL_some ef_call retC_i retC_y retC_b retC_s retC_st retC_sl retC_np retC_fr retC_ref retC_tup rk_nil rk_i rk_y rk_b rk_s rk_st rk_sl rk_own rk_oad rk_nl ok_nil ok_i ok_y ok_b ok_s ok_st ok_sl ok_own ok_oad ok_nl lo_nil lo_i lo_y lo_b lo_s lo_st lo_sl lo_own lo_oad lo_nl pr_nil pr_i pr_y pr_b pr_s pr_st pr_sl pr_own pr_nl pr_oad nr_i nr_y nr_b nr_s nr_st nr_sl nr_fr nr_np nr_tup ng_i ng_b ng_s ng_fr ng_nil resV effP_eff binD bi_add bi_sub bi_mul bi_quo bi_rem bi_eql bi_neq bi_lss bi_leq bi_gtr bi_geq bi_shl bi_shr bi_and bi_or bi_xor bi_andNot binY binS unD look put putD LS.get LS.drop killE sweep lookO putO dropO enter leave giveBackL giveBack outs lendArgs lendArg newOuts takeIn takeInL lendL DV.lend adoptL DV.adopt elems apartKs part DV.cells unpart settle settleL over mkId szId fillP fillE tk_e2 tk_i tk_y lt_e2 lt_i lt_y lend_rep al_e2 al_is al_ys al_rep al_app lend_app adopt_app new_app lend_e2 lend_i lend_y adopt_e2 adopt_i adopt_y new_e2 new_i allNewL DV.allNew bounds sliceD sliceS em_w em_q em_r em_fn em_tup_w em_tup_q em_tup_r mm_w mm_q mm_r mm_fn ef_load_adr_w ef_load_adr_q ef_load_adr_r retC_w retC_q retC_r rk_w rk_q rk_r rk_fn ok_w ok_q ok_r ok_fn lo_w lo_q lo_r lo_fn pr_w pr_q pr_r pr_fn nr_w nr_q nr_r ng_w ng_q ng_r oa_w oa_q oa_r oa_fn al_w al_q al_r al_fn ov_w ov_q ov_r ov_fn so_w so_q so_r so_fn il_w il_q il_r il_fn oi_w oi_q oi_r oi_fn av_w av_q av_r av_fn nm_w nm_q nm_r nm_fn ef_i2r ef_r2s ef_mkfn ef_mkbd ef_idxp_adr ef_idxp_q ef_calld_nil ef_calld_adr ef_calld_bd DV.capB capsOk DV.cell List.all_cons List.all_nil rk_own_t lo_own_t lk_f lk_t pr_own_t mutB ak_calld hk_calld iw_calld iw_mkfn iw_i2r iw_r2s bw_and bw_or bw_xor bw_andNot bw_eql bw_neq sw_shl sw_shr sq_shl gEnv_nil rk_adr ok_adr lo_adr pr_adr oa_adr capL capArg DV.cap ak_mkfn hk_mkfn hk_mkbd ef_callm gf_ap ga_nil ga_cons tgv_own gk_e gk_giv gk_i gk_y gk_b gk_s gk_w gk_q gk_r gk_fn gk_st gk_sl gk_own gk_oad gk_adr gk_nl gk_np rk_giv ok_giv lo_giv pr_giv oa_giv iw_callm hk_callm ak_callm is_callm ia_callm tg_callm md_callm ef_i2q ef_q2i ef_q2q iw_i2q iw_q2i iw_q2q ia_i2q ia_q2i ia_q2q bq_and bq_add bq_shr sq_shr tgv_nil gk_ref rk_ref ok_ref lo_ref pr_ref oa_ref retC_fn nr_fn ef_load_adr_fn ks_close cls_oad
attribute [local congr] nxM_congr ifP_congr nxP_congr nxR_congr nxT_congr nxG_congr nxF_congr ghK_congr gate_congr nx_congr nxD_congr runL_congr runD_congr eff_congr calL_congr ret2_congr seqK_congr regK_congr condK_congr endK_congr drK_congr nxW_congr
attribute [local simp ↓] nxM_some rm_nil rm_gen nxT_some rt_nil rt_gen rt_gate nxP_some rq_nil rq_gen rq_gate nxR_some ru_nil ru_gen ru_gate nxG_some rg_nil rg_gen rg_gate nxF_some rf_nil rf_gen rf_gate ks_promote ks_freeze frz_own ks_rename ghK_some gate_tt gate_tf gate_ft gate_ff gate_u nx_some nxD_some rl_nil rl_mv rl_gen rl_gate rd_nil rd_mv rd_gen rd_gate rd_free rr_false rr_true drK_some drK_none nxW_some rw_nil rw_gen rw_gate ks_region ks_seq ks_cond ks_block seqK_n seqK_e seqK_r regK_some condK_t condK_f blkK_n blkK_r endK_n endK_r calL_some ret2_some opv_t opv_c
section
theorem c_impl_isWithin (a b c : Int) : call lf n_impl_isWithin [.i a, .i b, .i c] = some (.b (decide (b ≤ a ∧ a ≤ c)), []) := by
  rw [call_k lf n_impl_isWithin _ (F := F_impl_isWithin) rfl rfl]
  by_cases h : b ≤ a <;> simp [F_impl_isWithin, h]
theorem c_spec_l1In (a b c : Int) : call lf n_spec_l1In [.i a, .i b, .i c] = some (.b (decide (b ≤ a ∧ a ≤ c)), []) := by
  rw [call_k lf n_spec_l1In _ (F := F_spec_l1In) rfl rfl]
  by_cases h : b ≤ a <;> simp [F_spec_l1In, h]
theorem c_impl_manyOk (a : Int) : call lf n_impl_manyOk [.i a] = some (.b (nOk a), []) := by
  rw [call_k lf n_impl_manyOk _ (F := F_impl_manyOk) rfl rfl]
  simp [F_impl_manyOk, c_impl_isWithin, nOk]

theorem l_impl_TestsOk (n : Int) (hb : n < 1099511627776) (es : List DV) (rest : List T) : ∀ k : Int, 0 ≤ k → k + (rest.map e2).length = n → es.drop k.toNat = rest.map e2 →
    ex lf F_impl_TestsOk_W0 ⟨[(9, .sl 0 es), (10, .i n), (11, .i k)], []⟩ =
    if rest.all tOk then some (.exit 0, ⟨[(9, .sl 0 es), (10, .i n), (11, .i n)], []⟩) else some (.ret, ⟨[(2, .b false)], []⟩) := by
  induction rest with
  | nil =>
    intro k h0 hn hd
    rw [w_impl_TestsOk_0]
    have hk : k = n := by simpa using hn
    simp [F_impl_TestsOk_L0, hk]
  | cons t rest ih =>
    intro k h0 hn hd
    obtain ⟨q1, q2, q3, q4, q5, q6⟩ := stp h0 hn hb hd
    have ih := ih (k + 1) q4 q5 q6
    simp only [e2] at q2
    rw [w_impl_TestsOk_0]
    have xt := tOk_def t
    cases x1 : decide (1 ≤ t.1 ∧ t.1 ≤ 9) <;> cases x2 : decide (1 ≤ t.2 ∧ t.2 ≤ 5) <;> rw [x1, x2] at xt <;> simp [F_impl_TestsOk_L0, q1, q2, q3, c_impl_isWithin, ih, xt, x1, x2, -List.all_eq_true]
theorem c_impl_TestsOk (ts : List T) (hb : (ts.length : Int) < 1099511627776) : call lf n_impl_TestsOk [.sl 0 (ts.map e2)] = some (.b (tsOk ts), []) := by
  rw [call_k lf n_impl_TestsOk _ (F := F_impl_TestsOk) rfl rfl]
  have L := l_impl_TestsOk ts.length hb (ts.map e2) ts 0 (by omega) (by simp) (by simp)
  cases h1 : nOk ts.length <;> cases h2 : ts.all tOk <;> simp [F_impl_TestsOk, c_impl_manyOk, L, h1, h2, tsOk]

theorem l_spec_TestsOk (n : Int) (hb : n < 1099511627776) (es : List DV) (hE : (es.length : Int) = n) (rest : List T) : ∀ k : Int, 0 ≤ k → k + (rest.map e2).length = n → es.drop k.toNat = rest.map e2 →
    ex lf F_spec_TestsOk_W0 ⟨[(0, .sl 0 es), (3, .i k)], []⟩ =
    if rest.all tOk then some (.exit 0, ⟨[(0, .sl 0 es), (3, .i n)], []⟩) else some (.ret, ⟨[(2, .b false)], []⟩) := by
  induction rest with
  | nil =>
    intro k h0 hn hd
    rw [w_spec_TestsOk_0]
    have hk : k = n := by simpa using hn
    simp [F_spec_TestsOk_L0, hk, hE]
  | cons t rest ih =>
    intro k h0 hn hd
    obtain ⟨q1, q2, q3, q4, q5, q6⟩ := stp h0 hn hb hd
    have ih := ih (k + 1) q4 q5 q6
    simp only [e2] at q2
    rw [w_spec_TestsOk_0]
    have xt := tOk_def t
    cases x1 : decide (1 ≤ t.1 ∧ t.1 ≤ 9) <;> cases x2 : decide (1 ≤ t.2 ∧ t.2 ≤ 5) <;> rw [x1, x2] at xt <;> simp [F_spec_TestsOk_L0, q1, q2, q3, hE, c_spec_l1In, ih, xt, x1, x2, -List.all_eq_true]
theorem c_spec_TestsOk (ts : List T) (hb : (ts.length : Int) < 1099511627776) : call lf n_spec_TestsOk [.sl 0 (ts.map e2)] = some (.b (tsOk ts), []) := by
  rw [call_k lf n_spec_TestsOk _ (F := F_spec_TestsOk) rfl rfl]
  have L := l_spec_TestsOk ts.length hb (ts.map e2) (by simp) ts 0 (by omega) (by simp) (by simp)
  cases h2 : ts.all tOk <;> simp [F_spec_TestsOk, c_spec_l1In, L, h2, tsOk, nOk]

theorem c_impl_statesOf (a : Int) (h0 : 0 ≤ a) (h5 : a ≤ 40) : call lf n_impl_statesOf [.i a] = some (.i (2 ^ a.toNat), []) := by
  rw [call_k lf n_impl_statesOf _ (F := F_impl_statesOf) rfl rfl]
  have h1 : ¬ a < 0 := by omega
  simp [F_impl_statesOf, h1, shl1 h0 h5]
theorem nOk_iff {a : Int} : nOk a = true ↔ 1 ≤ a ∧ a ≤ 5 := by simp [nOk]
theorem c_impl_StateOk (a b : Int) : call lf n_impl_StateOk [.i a, .i b] = some (.b (stOk a b), []) := by
  rw [call_k lf n_impl_StateOk _ (F := F_impl_StateOk) rfl rfl]
  cases h : nOk a with
  | true =>
    have h' := nOk_iff.1 h
    have p := pow2_le (k := a) (by omega) (by omega)
    have w := wr_id (n := 2 ^ a.toNat - 1) (by omega) (by omega)
    have e : decide (0 ≤ b ∧ b ≤ 2 ^ a.toNat - 1) = decide (0 ≤ b ∧ b < 2 ^ a.toNat) := decide_eq_decide.2 (by omega)
    simp [F_impl_StateOk, c_impl_manyOk, c_impl_isWithin, h, stOk, c_impl_statesOf a (by omega) (by omega), w, e]
  | false => simp [F_impl_StateOk, c_impl_manyOk, c_impl_isWithin, h, stOk]
theorem c_impl_outcomeIn (s k : Int) (h0 : 0 ≤ k) (h5 : k ≤ 40) : call lf n_impl_outcomeIn [.i s, .i k] = some (.i (s / 2 ^ k.toNat % 2), []) := by
  rw [call_k lf n_impl_outcomeIn _ (F := F_impl_outcomeIn) rfl rfl]
  have h1 : ¬ k < 0 := by omega
  simp [F_impl_outcomeIn, h1, shr1 (a := s) h0 (show k ≤ 60 by omega), bit_and]

theorem l_impl_WeightOf (s : Int) (n : Int) (hb : n ≤ 5) (es : List DV) (rest : List T) (hr : rest.all tOk = true) : ∀ (k a : Int), 0 ≤ k → k + (rest.map e2).length = n → es.drop k.toNat = rest.map e2 → 1 ≤ a → a ≤ 6 ^ k.toNat →
    ex lf F_impl_WeightOf_W0 ⟨[(1, .i s), (5, .i a), (18, .sl 0 es), (19, .i n), (20, .i k)], []⟩ = some (.exit 0, ⟨[(1, .i s), (5, .i (a * wt rest (s / 2 ^ k.toNat))), (18, .sl 0 es), (19, .i n), (20, .i n)], []⟩) := by
  induction rest with
  | nil =>
    intro k a h0 hn hd _ _
    rw [w_impl_WeightOf_0]
    have hk : k = n := by simpa using hn
    simp [F_impl_WeightOf_L0, hk, wt]
  | cons t rest ih =>
    intro k a h0 hn hd ha1 ha2
    simp only [List.all_cons, Bool.and_eq_true] at hr
    obtain ⟨q1, q2, q3, q4, q5, q6⟩ := stp h0 hn (by omega) hd
    have tk := tOk_iff.1 hr.1
    simp only [e2] at q2
    have oc := c_impl_outcomeIn s k h0 (by omega)
    have w6 : wr (6 - t.2) = 6 - t.2 := wr_id (by omega) (by omega)
    rw [w_impl_WeightOf_0]
    by_cases hx : s / 2 ^ k.toNat % 2 = 1
    · obtain ⟨m1, m2, m3⟩ := mulw (c := t.2) ha1 ha2 (by omega) (by omega) h0 (by omega)
      have ih := ih hr.2 (k + 1) (a * t.2) q4 q5 q6 m2 m3
      rw [div_pow_succ s h0] at ih
      simp [F_impl_WeightOf_L0, q1, q2, q3, oc, hx, m1, ih, wt, Int.mul_assoc]
    · obtain ⟨m1, m2, m3⟩ := mulw (c := 6 - t.2) ha1 ha2 (by omega) (by omega) h0 (by omega)
      have ih := ih hr.2 (k + 1) (a * (6 - t.2)) q4 q5 q6 m2 m3
      rw [div_pow_succ s h0] at ih
      have hx' : ((s / 2 ^ k.toNat % 2) == 1) = false := beq_eq_false_iff_ne.2 hx
      simp [F_impl_WeightOf_L0, q1, q2, q3, oc, hx, hx', m1, w6, ih, wt, Int.mul_assoc]
theorem tsOk_iff {ts : List T} : tsOk ts = true ↔ (1 ≤ (ts.length : Int) ∧ (ts.length : Int) ≤ 5) ∧ ts.all tOk = true := by
  rw [tsOk, Bool.and_eq_true, nOk_iff]
theorem c_impl_WeightOf (ts : List T) (s : Int) (hb : (ts.length : Int) < 1099511627776) : call lf n_impl_WeightOf [.sl 0 (ts.map e2), .i s] = some (.i (wtOf ts s), []) := by
  rw [call_k lf n_impl_WeightOf _ (F := F_impl_WeightOf) rfl rfl]
  have C := c_impl_TestsOk ts hb
  cases h1 : tsOk ts with
  | false => simp [F_impl_WeightOf, C, h1, wtOf]
  | true =>
    have h1' := tsOk_iff.1 h1
    cases h2 : stOk ts.length s with
    | false => simp [F_impl_WeightOf, C, c_impl_StateOk, h1, h2, wtOf]
    | true =>
      have L := l_impl_WeightOf s ts.length (by omega) (ts.map e2) ts h1'.2 0 1 (by omega) (by simp) (by simp) (by omega) (by simp)
      simp at L
      simp [F_impl_WeightOf, C, c_impl_StateOk, h1, h2, wtOf, L]

theorem l_spec_l1Weight (s : Int) (hs : 0 ≤ s) (n : Int) (hb : n ≤ 5) (es : List DV) (hE : (es.length : Int) = n) (rest : List T) (hr : rest.all tOk = true) : ∀ (k a : Int), 0 ≤ k → k + (rest.map e2).length = n → es.drop k.toNat = rest.map e2 → 1 ≤ a → a ≤ 6 ^ k.toNat →
    ex lf F_spec_l1Weight_W0 ⟨[(0, .sl 0 es), (1, .i s), (5, .i a), (6, .i k)], []⟩ = some (.exit 0, ⟨[(0, .sl 0 es), (1, .i s), (5, .i (a * wt rest (s / 2 ^ k.toNat))), (6, .i n)], []⟩) := by
  induction rest with
  | nil =>
    intro k a h0 hn hd _ _
    rw [w_spec_l1Weight_0]
    have hk : k = n := by simpa using hn
    simp [F_spec_l1Weight_L0, hk, wt, hE]
  | cons t rest ih =>
    intro k a h0 hn hd ha1 ha2
    simp only [List.all_cons, Bool.and_eq_true] at hr
    obtain ⟨q1, q2, q3, q4, q5, q6⟩ := stp h0 hn (by omega) hd
    have tk := tOk_iff.1 hr.1
    simp only [e2] at q2
    have h1 : ¬ k < 0 := by omega
    have sh := shr1 (a := s) h0 (show k ≤ 60 by omega)
    have tm := tmod2 (div_pow_nonneg hs k.toNat)
    have w6 : wr (6 - t.2) = 6 - t.2 := wr_id (by omega) (by omega)
    rw [w_spec_l1Weight_0]
    by_cases hx : s / 2 ^ k.toNat % 2 = 1
    · obtain ⟨m1, m2, m3⟩ := mulw (c := t.2) ha1 ha2 (by omega) (by omega) h0 (by omega)
      have ih := ih hr.2 (k + 1) (a * t.2) q4 q5 q6 m2 m3
      rw [div_pow_succ s h0] at ih
      simp [F_spec_l1Weight_L0, q1, q2, q3, hE, h1, sh, tm, hx, m1, ih, wt, Int.mul_assoc]
    · obtain ⟨m1, m2, m3⟩ := mulw (c := 6 - t.2) ha1 ha2 (by omega) (by omega) h0 (by omega)
      have ih := ih hr.2 (k + 1) (a * (6 - t.2)) q4 q5 q6 m2 m3
      rw [div_pow_succ s h0] at ih
      have hx' : ((s / 2 ^ k.toNat % 2) == 1) = false := beq_eq_false_iff_ne.2 hx
      simp [F_spec_l1Weight_L0, q1, q2, q3, hE, h1, sh, tm, hx, hx', m1, w6, ih, wt, Int.mul_assoc]
theorem c_spec_l1Weight (ts : List T) (s : Int) (h : tsOk ts = true) (hs : 0 ≤ s) : call lf n_spec_l1Weight [.sl 0 (ts.map e2), .i s] = some (.i (wt ts s), []) := by
  rw [call_k lf n_spec_l1Weight _ (F := F_spec_l1Weight) rfl rfl]
  have h1 := tsOk_iff.1 h
  have L := l_spec_l1Weight s hs ts.length (by omega) (ts.map e2) (by simp) ts h1.2 0 1 (by omega) (by simp) (by simp) (by omega) (by simp)
  simp at L
  simp [F_spec_l1Weight, L]
end
section
theorem sumTo_nonneg {f : Nat → Int} {B : Int} (hB : 0 ≤ B) (n : Nat) : (∀ k, k < n → 0 ≤ f k ∧ f k ≤ B) → 0 ≤ sumTo f n ∧ sumTo f n ≤ B * n := by
  induction n with
  | zero => intro _; simp [sumTo]
  | succ n ih =>
    intro h
    have a := ih (fun k hk => h k (by omega))
    have b := h n (by omega)
    simp only [sumTo]
    rw [show ((n + 1 : Nat) : Int) = n + 1 by omega, Int.mul_add]
    omega
theorem p2 {ts : List T} (h : tsOk ts = true) : 1 ≤ (2 : Nat) ^ ts.length ∧ (2 : Nat) ^ ts.length ≤ 32 ∧ ((2 ^ ts.length : Nat) : Int) = 2 ^ ts.length := by
  have h' := tsOk_iff.1 h
  have a : (2 : Nat) ^ ts.length ≤ 2 ^ 5 := Nat.pow_le_pow_right (by omega) (by omega)
  exact ⟨Nat.pow_pos (by omega), by omega, by simp⟩
theorem at_e2 {ts : List T} {i : Nat} (hi : i < ts.length) : ∃ t, ts[i]? = some t ∧ t ∈ ts ∧ atI (ts.map e2) i = some (.st [.i t.1, .i t.2]) ∧ ts.take (i + 1) = ts.take i ++ [t] := by
  refine ⟨ts[i], List.getElem?_eq_getElem hi, List.getElem_mem hi, ?_, List.take_succ_eq_append_getElem hi⟩
  simp [atI, hi, e2]
def ot (ts : List T) (i : Nat) : List DV := ((ts.take i).map other).map e2
theorem ot_len {ts : List T} {i : Nat} (hi : i ≤ ts.length) : (ot ts i).length = i := by simp [ot]; omega
theorem ot_succ {ts : List T} {i : Nat} {t : T} (h : ts.take (i + 1) = ts.take i ++ [t]) : ot ts (i + 1) = ot ts i ++ [.st [.i t.1, .i (6 - t.2)]] := by
  simp [ot, h, e2, other]
def cn (ts : List T) (i : Nat) : List DV := ot ts i ++ List.replicate (ts.length - i) (.st [.i 0, .i 0])
theorem cn_len {ts : List T} {i : Nat} (hi : i ≤ ts.length) : (cn ts i).length = ts.length := by simp [cn, ot_len hi]; omega
theorem cn_get {ts : List T} {i : Nat} (hi : i < ts.length) : atN (cn ts i) i = some (.st [.i 0, .i 0]) := by
  show (cn ts i)[i]? = _
  have := ot_len (ts := ts) (i := i) (by omega)
  unfold cn
  rw [List.getElem?_append_right (by omega), this, Nat.sub_self, List.getElem?_replicate]
  simp; omega
theorem cn_set {ts : List T} {i : Nat} {t : T} (hi : i < ts.length) (h : ts.take (i + 1) = ts.take i ++ [t]) : (cn ts i).set i (.st [.i t.1, .i (6 - t.2)]) = cn ts (i + 1) := by
  have := ot_len (ts := ts) (i := i) (by omega)
  unfold cn
  rw [List.set_append_right _ _ (by omega), this, Nat.sub_self, ot_succ h, show ts.length - i = (ts.length - (i + 1)) + 1 by omega, List.replicate_succ, List.set_cons_zero, List.append_assoc]
  rfl
theorem cn_zero (ts : List T) : cn ts 0 = List.replicate ts.length (.st [.i 0, .i 0]) := by simp [cn, ot]
theorem cn_all (ts : List T) : cn ts ts.length = (ts.map other).map e2 := by simp [cn, ot]
theorem l_impl_OtherTests (ts : List T) (h1 : tsOk ts = true) :
    ex lf F_impl_OtherTests_W0 ⟨[(3, .own 5648 ts.length 0 ts.length), (12, .sl 0 (ts.map e2)), (13, .i ts.length), (14, .i 0)], [(5648, cn ts 0)]⟩ =
      some (.exit 0, ⟨[(3, .own 5648 ts.length 0 ts.length), (12, .sl 0 (ts.map e2)), (13, .i ts.length), (14, .i ts.length)], [(5648, cn ts ts.length)]⟩) := by
  have h1' := tsOk_iff.1 h1
  refine loop_count ts.length (fun i => ⟨[(3, .own 5648 ts.length 0 ts.length), (12, .sl 0 (ts.map e2)), (13, .i ts.length), (14, .i i)], [(5648, cn ts i)]⟩) (fun i hi => ?_) ?_ (by simp)
  · obtain ⟨t, q1, q2, q3, q4⟩ := at_e2 hi
    have hlt : ((i : Nat) : Int) < ts.length := by omega
    have w1 : wr ((i : Int) + 1) = (i : Int) + 1 := wr_id (by omega) (by omega)
    have tk := tOk_iff.1 (List.all_eq_true.1 h1'.2 t q2)
    have w6 : wr (6 - t.2) = 6 - t.2 := wr_id (by omega) (by omega)
    have c1 := cn_len (ts := ts) (i := i) (by omega)
    have c2 := cn_get hi
    have c3 := cn_set hi q4
    simp [F_impl_OtherTests_L0, hi, q3, w1, w6, c1, c2, c3]
  · simp [F_impl_OtherTests_L0]
theorem c_impl_OtherTests (ts : List T) (hb : (ts.length : Int) < 1099511627776) : call lf n_impl_OtherTests [.sl 0 (ts.map e2)] = some (.fr 2 ((others ts).map e2), []) := by
  rw [call_k lf n_impl_OtherTests _ (F := F_impl_OtherTests) rfl rfl]
  have C := c_impl_TestsOk ts hb
  cases h1 : tsOk ts with
  | false => simp [F_impl_OtherTests, C, h1, others]
  | true =>
    have h1' := tsOk_iff.1 h1
    have L := l_impl_OtherTests ts h1
    have b1 : (ts.length : Int) ≤ bound := by unfold bound; omega
    rw [cn_zero] at L
    simp [F_impl_OtherTests, C, h1, b1, L, others, cn_len, cn_all]
end
section
/-- a mark read with p parts before it -/
def mkS (m p : Int) (t : T) : Option Int :=
  if t.1 = 0 then (if 0 ≤ t.2 ∧ t.2 < m then some (p + 1) else none)
  else if t.1 = 1 then (if t.2 = 0 ∧ 1 ≤ p then some p else none)
  else if t.1 = 2 ∨ t.1 = 3 then (if t.2 = 0 ∧ 2 ≤ p then some (p - 1) else none)
  else none
end
section
/-- how many parts a mark takes -/
def taken (k : Int) : Nat := if k = 0 then 0 else if k = 1 then 1 else 2
def stepG {P : Type} (mk : T → List P → P) (st : List P) (t : T) : List P := st.take (st.length - taken t.1) ++ [mk t (st.drop (st.length - taken t.1))]
def yesW (a : Nat) : BitVec 32 := match a with
  | 0 => 2863311530#32
  | 1 => 3435973836#32
  | 2 => 4042322160#32
  | 3 => 4278255360#32
  | _ => 4294901760#32
def mkW (t : T) (ps : List (BitVec 32)) : BitVec 32 :=
  if t.1 = 0 then yesW t.2.toNat else if t.1 = 1 then ~~~(ps.getD 0 0) else if t.1 = 2 then ps.getD 0 0 &&& ps.getD 1 0 else ps.getD 0 0 ||| ps.getD 1 0
def tsW (ts : List T) : BitVec 32 := (ts.foldl (stepG mkW) []).headD 0
/-- the value of a term in a state -/
def tv (ts : List T) (s : Nat) : Bool := (tsW ts).getLsbD s
end
section
theorem xor_bound {a b : Int} (h1 : 0 ≤ a) (h2 : a < 4611686018427387904) (h3 : 0 ≤ b) (h4 : b < 4611686018427387904) : 0 ≤ xorI a b ∧ xorI a b < 4611686018427387904 := by
  have e : (BitVec.ofInt 64 a ^^^ BitVec.ofInt 64 b).toNat = a.toNat ^^^ b.toNat := by
    simp only [BitVec.toNat_xor, BitVec.toNat_ofInt]
    congr 1 <;> omega
  have k : a.toNat ^^^ b.toNat < 2 ^ 62 := Nat.xor_lt_two_pow (by omega) (by omega)
  unfold xorI
  rw [e, wr_id (by omega) (by omega)]
  omega
def hs (bs : List Nat) (p : Int) : Int := (bs.getD (p.tmod bs.length).toNat 0 : Nat) * 131 + (bs.getD ((p * 7 + 3).tmod bs.length).toNat 0 : Nat) * 1117 + p * 29 + p.tdiv bs.length * 53
def pk (bs : List Nat) (p n : Int) : Int := if bs.length = 0 then 0 else if p < bs.length then ((bs.getD p.toNat 0 : Nat) : Int).tmod n else (xorI (hs bs p) ((hs bs p).tdiv 64)).tmod n
theorem byte_lt {bs : List Nat} (hb : ∀ y ∈ bs, y < 256) (i : Nat) : bs.getD i 0 < 256 := by
  by_cases h : i < bs.length
  · have : bs.getD i 0 = bs[i] := by simp [List.getD, h]
    rw [this]
    exact hb _ (List.getElem_mem h)
  · have : bs.getD i 0 = 0 := by simp [List.getD, List.getElem?_eq_none (by omega : bs.length ≤ i)]
    omega
theorem tdiv_bound {p l : Int} (h0 : 0 ≤ p) (hl : 1 ≤ l) : 0 ≤ p.tdiv l ∧ p.tdiv l ≤ p := by
  rw [Int.tdiv_eq_ediv_of_nonneg h0]
  exact ⟨Int.ediv_nonneg h0 (by omega), Int.ediv_le_self _ h0⟩
theorem tmod_bound {p l : Int} (h0 : 0 ≤ p) (hl : 1 ≤ l) : 0 ≤ p.tmod l ∧ p.tmod l < l := by
  rw [Int.tmod_eq_emod_of_nonneg h0]
  exact ⟨Int.emod_nonneg _ (by omega), Int.emod_lt_of_pos _ (by omega)⟩
theorem hs_bound {bs : List Nat} (hb : ∀ y ∈ bs, y < 256) {p : Int} (h0 : 0 ≤ p) (h1 : p ≤ 1000000) (hl : 1 ≤ bs.length) : 0 ≤ hs bs p ∧ hs bs p < 1000000000 := by
  have a := byte_lt hb (p.tmod bs.length).toNat
  have b := byte_lt hb ((p * 7 + 3).tmod bs.length).toNat
  have c := tdiv_bound (p := p) (l := bs.length) h0 (by omega)
  unfold hs
  omega
theorem pk_bound {bs : List Nat} (hb : ∀ y ∈ bs, y < 256) {p n : Int} (h0 : 0 ≤ p) (h1 : p ≤ 1000000) (hn : 1 ≤ n) : 0 ≤ pk bs p n ∧ pk bs p n < n := by
  unfold pk
  split
  · omega
  · split
    · exact tmod_bound (by omega) hn
    · have a := hs_bound hb h0 h1 (by omega)
      have b := tdiv_bound (p := hs bs p) (l := 64) a.1 (by omega)
      have c := xor_bound a.1 (by omega) b.1 (by omega)
      exact tmod_bound c.1 hn
theorem atI_y {bs : List Nat} {i : Int} (h0 : 0 ≤ i) (h1 : i < bs.length) : atI (bs.map .y) i = some (.y (bs.getD i.toNat 0)) := by
  have : i.toNat < bs.length := by omega
  simp [atI, h0, List.getD, this]

theorem c_pick {bs : List Nat} (hb : ∀ y ∈ bs, y < 256) (hl : bs.length ≤ 2000) {p n : Int} (h0 : 0 ≤ p) (h1 : p < 1000000) (hn : 1 ≤ n) :
    call lf n_spec_l20Rd_pick [.ref (.st [.sl 0 (bs.map .y), .i p]), .i n] = some (.i (pk bs p n), [.st [.sl 0 (bs.map .y), .i (p + 1)]]) := by
  rw [call_k lf n_spec_l20Rd_pick _ (F := F_spec_l20Rd_pick) rfl rfl]
  have w1 : wr (p + 1) = p + 1 := wr_id (by omega) (by omega)
  have w2 : wr p = p := wr_id (by omega) (by omega)
  have n1 : ¬ n < 1 := by omega
  have n2 : ¬ n = 0 := by omega
  by_cases e : bs.length = 0
  · have e1 : ((bs.length : Int) == 0) = true := by rw [e]; rfl
    simp [F_spec_l20Rd_pick, w1, n1, e1, pk, e]
  · have e1 : ((bs.length : Int) == 0) = false := beq_eq_false_iff_ne.2 (by omega)
    by_cases f : p < bs.length
    · have a := atI_y (bs := bs) h0 f
      simp [F_spec_l20Rd_pick, w1, w2, n1, n2, e1, pk, e, f, a]
    · have lpos : (1 : Int) ≤ bs.length := by omega
      have l0 : ¬ bs = [] := fun h => e (by rw [h]; rfl)
      have t1 := tmod_bound h0 lpos
      have t2 := tmod_bound (p := p * 7 + 3) (by omega) lpos
      have a1 := atI_y t1.1 t1.2
      have a2 := atI_y t2.1 t2.2
      have b1 := byte_lt hb (p.tmod bs.length).toNat
      have b2 := byte_lt hb ((p * 7 + 3).tmod bs.length).toNat
      have d := tdiv_bound h0 lpos
      have H := hs_bound hb h0 (by omega) (by omega : 1 ≤ bs.length)
      have hd : hs bs p = (bs.getD (p.tmod bs.length).toNat 0 : Nat) * 131 + (bs.getD ((p * 7 + 3).tmod bs.length).toNat 0 : Nat) * 1117 + p * 29 + p.tdiv bs.length * 53 := rfl
      have hp : pk bs p n = (xorI (hs bs p) ((hs bs p).tdiv 64)).tmod n := by unfold pk; rw [if_neg e, if_neg f]
      generalize bs.getD (p.tmod bs.length).toNat 0 = u at *
      generalize bs.getD ((p * 7 + 3).tmod bs.length).toNat 0 = v at *
      have v1 : wr (p * 7) = p * 7 := wr_id (by omega) (by omega)
      have v2 : wr (p * 7 + 3) = p * 7 + 3 := wr_id (by omega) (by omega)
      have v3 : wr ((u : Int) * 131) = u * 131 := wr_id (by omega) (by omega)
      have v4 : wr ((v : Int) * 1117) = v * 1117 := wr_id (by omega) (by omega)
      have v5 : wr ((u : Int) * 131 + v * 1117) = u * 131 + v * 1117 := wr_id (by omega) (by omega)
      have v6 : wr (p * 29) = p * 29 := wr_id (by omega) (by omega)
      have v7 : wr ((u : Int) * 131 + v * 1117 + p * 29) = u * 131 + v * 1117 + p * 29 := wr_id (by omega) (by omega)
      have v8 : wr (p.tdiv bs.length) = p.tdiv bs.length := wr_id (by omega) (by omega)
      have v9 : wr (p.tdiv bs.length * 53) = p.tdiv bs.length * 53 := wr_id (by omega) (by omega)
      have va : wr ((u : Int) * 131 + v * 1117 + p * 29 + p.tdiv bs.length * 53) = hs bs p := by rw [hd]; exact wr_id (by omega) (by omega)
      have b := tdiv_bound (p := hs bs p) (l := 64) H.1 (by omega)
      have vb : wr ((hs bs p).tdiv 64) = (hs bs p).tdiv 64 := wr_id (by omega) (by omega)
      simp [F_spec_l20Rd_pick, w1, w2, n1, n2, e1, f, l0, a1, a2, v1, v2, v3, v4, v5, v6, v7, v8, v9, va, vb, hp]
theorem c_odd {bs : List Nat} (hb : ∀ y ∈ bs, y < 256) (hl : bs.length ≤ 2000) {p n : Int} (h0 : 0 ≤ p) (h1 : p < 1000000) (hn : 1 ≤ n) (hn2 : n ≤ 1000000) :
    call lf n_spec_l20Rd_odd [.ref (.st [.sl 0 (bs.map .y), .i p]), .i n] = some (.b (pk bs p n == n - 1), [.st [.sl 0 (bs.map .y), .i (p + 1)]]) := by
  rw [call_k lf n_spec_l20Rd_odd _ (F := F_spec_l20Rd_odd) rfl rfl]
  have n1 : 0 < n := by omega
  have w : wr (n - 1) = n - 1 := wr_id (by omega) (by omega)
  simp [F_spec_l20Rd_odd, n1, w, c_pick hb hl h0 h1 hn]
theorem c_open {bs : List Nat} (hl : bs.length ≤ 1048576) : call lf n_spec_l20Open [.sl 0 (bs.map .y)] = some (.ref (.st [.sl 0 ((bs.take 2000).map .y), .i 0]), []) := by
  rw [call_k lf n_spec_l20Open _ (F := F_spec_l20Open) rfl rfl]
  by_cases h : 2000 < (bs.length : Int)
  · have h2 : (2000 : Int) ≤ bs.length := by omega
    have h3 : ∀ x ∈ bs, (DV.y x).cells.length = 1 := fun _ _ => rfl
    simp [F_spec_l20Open, h, h2, List.map_take]
  · have h2 : bs.take 2000 = bs := List.take_of_length_le (by omega)
    simp [F_spec_l20Open, h, h2]

theorem l_l20Tests {bs : List Nat} (hb : ∀ y ∈ bs, y < 256) (hl : bs.length ≤ 2000) (nn : Int) (j : Nat) : ∀ (p : Int) (ts : List T), 0 ≤ p → p + 2 * j < 900000 → ts.length + j ≤ 100 →
    ∃ us : List T, us.length = ts.length + j ∧
    ex lf F_spec_l20Tests_W0 ⟨[(0, .oad 23 1 0 0), (1, .i nn), (5, .own 3600 ts.length 0 ts.length), (6, .i j)], [(23, [.st [.sl 0 (bs.map .y), .i p]]), (3600, ts.map e2)]⟩ =
      some (.exit 0, ⟨[(0, .oad 23 1 0 0), (1, .i nn), (5, .own 3600 us.length 0 us.length), (6, .i 0)], [(23, [.st [.sl 0 (bs.map .y), .i (p + 2 * j)]]), (3600, us.map e2)]⟩) := by
  induction j with
  | zero =>
    intro p ts h0 h1 h2
    refine ⟨ts, by omega, ?_⟩
    rw [w_spec_l20Tests_0]
    simp [F_spec_l20Tests_L0]
  | succ j ih =>
    intro p ts h0 h1 h2
    have a1 := pk_bound hb h0 (by omega : p ≤ 1000000) (by omega : (1 : Int) ≤ 9)
    have a2 := pk_bound hb (by omega : 0 ≤ p + 1) (by omega : p + 1 ≤ 1000000) (by omega : (1 : Int) ≤ 5)
    have k1 := c_pick hb hl h0 (by omega : p < 1000000) (by omega : (1 : Int) ≤ 9)
    have k2 := c_pick hb hl (by omega : 0 ≤ p + 1) (by omega : p + 1 < 1000000) (by omega : (1 : Int) ≤ 5)
    have w1 : wr (1 + pk bs p 9) = 1 + pk bs p 9 := wr_id (by omega) (by omega)
    have w2 : wr (1 + pk bs (p + 1) 5) = 1 + pk bs (p + 1) 5 := wr_id (by omega) (by omega)
    have w3 : wr (j : Int) = j := wr_id (by omega) (by omega)
    obtain ⟨us, u1, u2⟩ := ih (p + 1 + 1) (ts ++ [(1 + pk bs p 9, 1 + pk bs (p + 1) 5)]) (by omega) (by omega) (by simp; omega)
    refine ⟨us, by rw [u1]; simp; omega, ?_⟩
    rw [w_spec_l20Tests_0]
    have c1 : (0 : Int) < (j : Int) + 1 := by omega
    have c2 : ts.length + 1 ≤ bound := by unfold bound; omega
    simp [e2, Int.natCast_add] at u2
    rw [show p + 2 * ((j + 1 : Nat) : Int) = p + 1 + 1 + 2 * j by omega]
    simp [F_spec_l20Tests_L0, c1, c2, k1, k2, w1, w2, w3, e2, u2]
theorem c_l20Tests {bs : List Nat} (hb : ∀ y ∈ bs, y < 256) (hl : bs.length ≤ 2000) {p n : Int} (h0 : 0 ≤ p) (h1 : p < 800000) (hn : 1 ≤ n) (hn2 : n ≤ 1000000) :
    ∃ (us : List T) (p' : Int), us.length ≤ 5 ∧ p ≤ p' ∧ p' ≤ p + 20 ∧ call lf n_spec_l20Tests [.ref (.st [.sl 0 (bs.map .y), .i p]), .i n] = some (.fr 2 (us.map e2), [.st [.sl 0 (bs.map .y), .i p']]) := by
  have a1 := pk_bound hb h0 (by omega : p ≤ 1000000) (by omega : (1 : Int) ≤ 5)
  have k1 := c_pick hb hl h0 (by omega : p < 1000000) (by omega : (1 : Int) ≤ 5)
  obtain ⟨j, hj⟩ : ∃ j : Nat, 1 + pk bs p 5 = j := ⟨(1 + pk bs p 5).toNat, by omega⟩
  have w1 : wr (j : Int) = j := wr_id (by omega) (by omega)
  obtain ⟨us, u1, u2⟩ := l_l20Tests hb hl n j (p + 1) [] (by omega) (by omega) (by simp; omega)
  simp at u1 u2
  have q0 : 0 ≤ p + 1 + 2 * (j : Int) := by omega
  have k2 := c_odd hb hl q0 (by omega) hn hn2
  generalize hq : p + 1 + 2 * (j : Int) = q at *
  cases ho : (pk bs q n == n - 1) with
  | false =>
    rw [ho] at k2
    refine ⟨us, q + 1, by omega, by omega, by omega, ?_⟩
    rw [call_k lf n_spec_l20Tests _ (F := F_spec_l20Tests) rfl rfl]
    simp [F_spec_l20Tests, k1, hj, w1, u2, k2]
  | true =>
    rw [ho] at k2
    have k3 := c_pick hb hl (by omega : 0 ≤ q + 1) (by omega : q + 1 < 1000000) (by omega : (1 : Int) ≤ 3)
    have a3 := pk_bound hb (by omega : 0 ≤ q + 1) (by omega : q + 1 ≤ 1000000) (by omega : (1 : Int) ≤ 3)
    have k4 := c_pick hb hl (by omega : 0 ≤ q + 1 + 1) (by omega : q + 1 + 1 < 1000000) (by omega : (1 : Int) ≤ 2)
    have a4 := pk_bound hb (by omega : 0 ≤ q + 1 + 1) (by omega : q + 1 + 1 ≤ 1000000) (by omega : (1 : Int) ≤ 2)
    match us, u1 with
    | [], u1 => simp at u1; omega
    | t :: r, u1 =>
      simp [e2, Int.natCast_add] at u2
      generalize pk bs (q + 1) 3 = x3 at *
      generalize pk bs (q + 1 + 1) 2 = x4 at *
      have c3 : x3 = 0 ∨ x3 = 1 ∨ x3 = 2 := by omega
      have c4 : x4 = 0 ∨ x4 = 1 := by omega
      have e0 : ∀ (a b : Int), DV.st [.i a, .i b] = e2 (a, b) := fun _ _ => rfl
      rcases c3 with rfl | rfl | rfl
      · refine ⟨[], q + 1 + 1, by simp, by omega, by omega, ?_⟩
        rw [call_k lf n_spec_l20Tests _ (F := F_spec_l20Tests) rfl rfl]
        simp [F_spec_l20Tests, k1, hj, w1, u2, k2, k3]
      · rcases c4 with rfl | rfl
        · refine ⟨(0, t.2) :: r, q + 1 + 1 + 1, by simp at u1 ⊢; omega, by omega, by omega, ?_⟩
          rw [call_k lf n_spec_l20Tests _ (F := F_spec_l20Tests) rfl rfl]
          simp [F_spec_l20Tests, k1, hj, w1, u2, k2, k3, k4, e2]
        · refine ⟨(10, t.2) :: r, q + 1 + 1 + 1, by simp at u1 ⊢; omega, by omega, by omega, ?_⟩
          rw [call_k lf n_spec_l20Tests _ (F := F_spec_l20Tests) rfl rfl]
          simp [F_spec_l20Tests, k1, hj, w1, u2, k2, k3, k4, e2]
      · rcases c4 with rfl | rfl
        · refine ⟨(t.1, 0) :: r, q + 1 + 1 + 1, by simp at u1 ⊢; omega, by omega, by omega, ?_⟩
          rw [call_k lf n_spec_l20Tests _ (F := F_spec_l20Tests) rfl rfl]
          simp [F_spec_l20Tests, k1, hj, w1, u2, k2, k3, k4, e2]
        · refine ⟨(t.1, 6) :: r, q + 1 + 1 + 1, by simp at u1 ⊢; omega, by omega, by omega, ?_⟩
          rw [call_k lf n_spec_l20Tests _ (F := F_spec_l20Tests) rfl rfl]
          simp [F_spec_l20Tests, k1, hj, w1, u2, k2, k3, k4, e2]

theorem take_b {bs : List Nat} (hb : ∀ y ∈ bs, y < 256) : (∀ y ∈ bs.take 2000, y < 256) ∧ (bs.take 2000).length ≤ 2000 :=
  ⟨fun y h => hb y (List.mem_of_mem_take h), by simp; omega⟩
theorem quo39 {x : Int} (h0 : 0 ≤ x) (h1 : x < 40) : x.tdiv 39 = 0 ∨ x.tdiv 39 = 1 := by
  rw [Int.tdiv_eq_ediv_of_nonneg h0]; omega
end
section
theorem cells_st (cs : List DV) : (DV.st cs).cells = cs := rfl
theorem cells_sl (p : Nat) (es : List DV) : (DV.sl p es).cells = [DV.sl p es] := rfl
theorem cells_i (n : Int) : (DV.i n).cells = [DV.i n] := rfl
theorem cells_y (n : Nat) : (DV.y n).cells = [DV.y n] := rfl
theorem cells_b (n : Bool) : (DV.b n).cells = [DV.b n] := rfl
theorem cells_s (n : List UInt8) : (DV.s n).cells = [DV.s n] := rfl
attribute [-simp] DV.cells
attribute [local simp] cells_st cells_sl cells_i cells_y cells_b cells_s
def row (t : List T) : DV := .sl 1 (t.map e2)
theorem flat_set (m : T) : ∀ {ps : List (List T)} {A : Nat} {t : List T}, ps[A]? = some t → (ps.set A (t ++ [m])).flatten.length = ps.flatten.length + 1
  | [], _, _, h => by simp at h
  | x :: ps, 0, t, h => by simp at h; subst h; simp; omega
  | x :: ps, A + 1, t, h => by
    simp only [List.getElem?_cons_succ] at h
    have := flat_set m h
    simp at this ⊢
    omega
theorem flat_len : ∀ {ps : List (List T)} {A : Nat} {t : List T}, ps[A]? = some t → t.length ≤ ps.flatten.length
  | [], _, _, h => by simp at h
  | x :: ps, 0, t, h => by simp at h; subst h; simp
  | x :: ps, A + 1, t, h => by
    simp only [List.getElem?_cons_succ] at h
    have := flat_len h
    simp only [List.flatten_cons, List.length_append]; omega
end
section
attribute [-simp] DV.cells
attribute [local simp] cells_st cells_sl cells_i cells_y cells_b cells_s
theorem cells_w (x : BitVec 32) : (DV.w x).cells = [DV.w x] := rfl
attribute [local simp] cells_w
end
section
attribute [-simp] DV.cells
attribute [local simp] cells_st cells_sl cells_i cells_y cells_b cells_s cells_w
attribute [-simp] sliceD
def bI (b : Bool) : Int := if b then 1 else 0
end
section
attribute [-simp] DV.cells sliceD
attribute [local simp] cells_st cells_sl cells_i cells_y cells_b cells_s cells_w
theorem pow5 {m : Int} (h1 : 1 ≤ m) (h5 : m ≤ 5) : 2 ≤ 2 ^ m.toNat ∧ 2 ^ m.toNat ≤ 32 ∧ ((2 ^ m.toNat : Nat) : Int) = 2 ^ m.toNat := by
  have c : m = 1 ∨ m = 2 ∨ m = 3 ∨ m = 4 ∨ m = 5 := by omega
  rcases c with rfl | rfl | rfl | rfl | rfl <;> decide
end
section
attribute [-simp] DV.cells sliceD
attribute [local simp] cells_st cells_sl cells_i cells_y cells_b cells_s cells_w
/-- 1 if f holds wherever g does below N, 0 if nowhere, else -1 -/
def fo (f g : Nat → Bool) (N : Nat) : Int := if allTo (fun s => !g s || f s) N then 1 else if allTo (fun s => !g s || !f s) N then 0 else -1
/-- What the states say that agree. -/
def agB (ks : List Int) (s : Nat) : Bool := ag ks (s : Int)
theorem agB_cons (k : Int) (r : List Int) (s : Nat) : agB (k :: r) s = ((k == -1 || k == bI (s.testBit 0)) && agB r (s / 2)) := by
  unfold agB
  simp only [ag]
  have e1 : (s : Int) % 2 = bI (s.testBit 0) := by
    unfold bI
    rw [Nat.testBit_zero]
    by_cases h : s % 2 = 1
    · simp [h]; omega
    · simp [h]; omega
  have e2 : (s : Int) / 2 = ((s / 2 : Nat) : Int) := by omega
  rw [e1, e2]
end
section
attribute [-simp] DV.cells sliceD
attribute [local simp] cells_st cells_sl cells_i cells_y cells_b cells_s cells_w
/-- what is known of a term by what is known of its tests -/
def foT (m : Int) (ts : List T) (ks : List Int) : Int := fo (tv ts) (agB ks) (2 ^ m.toNat)
def told (m : Nat) (st so : Nat) : List Int := (List.range m).map fun k => if so.testBit k then bI (st.testBit k) else -1
end
section
attribute [-simp] DV.cells sliceD
attribute [local simp] cells_st cells_sl cells_i cells_y cells_b cells_s cells_w
def agW : List Int → Nat → BitVec 32 → BitVec 32
  | [], _, w => w
  | k :: r, i, w => agW r (i + 1) (if k = 0 then w &&& ~~~(yesW i) else if k = 1 then w &&& yesW i else w)
end
section
theorem c_alive : call lf n_laws_alive [] = some (.b true, []) := by
  rw [call_k lf n_laws_alive _ (F := F_laws_alive) rfl rfl]
  have a := c_impl_TestsOk [(1, 1)] (by simp)
  have b := c_impl_TestsOk [(0, 0)] (by simp)
  have a1 : tsOk [(1, 1)] = true := by decide
  have b1 : tsOk [(0, 0)] = false := by decide
  rw [a1] at a
  rw [b1] at b
  simp [e2] at a b
  simp [F_laws_alive, a, b]
theorem c_power (n : Int) (h0 : 0 ≤ n) (h5 : n ≤ 5) : call lf n_laws_power [.i n] = some (.i (6 ^ n.toNat), []) := by
  rw [call_k lf n_laws_power _ (F := F_laws_power) rfl rfl]
  have c : n = 0 ∨ n = 1 ∨ n = 2 ∨ n = 3 ∨ n = 4 ∨ n = 5 := by omega
  have w : ∀ m : Int, 0 ≤ m → m ≤ 8000 → wr m = m := fun m a b => wr_id (by omega) (by omega)
  have L : ex lf F_laws_power_W0 ⟨[(0, .i n), (3, .i 1), (4, .i 0)], []⟩ = some (.exit 0, ⟨[(0, .i n), (3, .i (6 ^ n.toNat)), (4, .i n)], []⟩) := by
    have := loop_count (lf := lf) (L := F_laws_power_L0) n.toNat (fun i => ⟨[(0, .i n), (3, .i (6 ^ i)), (4, .i i)], []⟩) (x := .exit 0) (R := ⟨[(0, .i n), (3, .i (6 ^ n.toNat)), (4, .i n)], []⟩) (fun i hi => ?_) ?_ (by simp)
    · rw [show F_laws_power_W0 = .loop F_laws_power_L0 from rfl]
      simpa using this
    · have hlt : ((i : Nat) : Int) < n := by omega
      have b := pow_le (n := i + 1) (m := 5) (by omega) 6 (by omega)
      have b0 : (0 : Int) ≤ 6 ^ i := Int.le_of_lt (Int.pow_pos (by omega))
      simp only [Int.pow_succ] at b
      have w2 : wr (6 ^ i * 6) = 6 ^ i * 6 := w _ (by omega) (by simp at b; omega)
      have w1 : wr ((i : Int) + 1) = (i : Int) + 1 := wr_id (by omega) (by omega)
      simp [F_laws_power_L0, hlt, w2, w1, Int.pow_succ]
    · have e : max n 0 = n := by omega
      simp [F_laws_power_L0, e]
  simp [F_laws_power, L]
end
section
/-- the opposite state -/
def opp (m : Int) (s : Nat) : Nat := 2 ^ m.toNat - 1 - s
theorem opp_bit {m : Int} {s : Nat} (hs : s < 2 ^ m.toNat) {a : Nat} (ha : a < m.toNat) : (opp m s).testBit a = !s.testBit a := by
  unfold opp
  rw [show 2 ^ m.toNat - 1 - s = 2 ^ m.toNat - (s + 1) by omega, Nat.testBit_two_pow_sub_succ hs]
  simp [ha]
end
section
theorem agB_iff : ∀ {ks : List Int} {s : Nat}, agB ks s = true ↔ ∀ k v, ks[k]? = some v → v = -1 ∨ v = bI (s.testBit k)
  | [], s => by simp [agB, ag]
  | a :: r, s => by
    rw [agB_cons]
    simp only [Bool.and_eq_true, Bool.or_eq_true, beq_iff_eq]
    rw [agB_iff (ks := r)]
    constructor
    · rintro ⟨h1, h2⟩ k v hv
      cases k with
      | zero => simp at hv; subst hv; exact h1
      | succ k => simp at hv; have := h2 k v hv; rw [Nat.testBit_succ]; exact this
    · intro h
      refine ⟨h 0 a rfl, fun k v hv => ?_⟩
      have := h (k + 1) v (by simpa using hv)
      rw [Nat.testBit_succ] at this
      exact this
theorem bI_inj {a b : Bool} : bI a = bI b ↔ a = b := by cases a <;> cases b <;> simp [bI]
end
section
attribute [-simp] DV.cells
attribute [local simp] cells_st cells_sl cells_i cells_y cells_b cells_s cells_w
theorem sumTo_rev (f : Nat → Int) : ∀ n, sumTo f n = sumTo (fun k => f (n - 1 - k)) n := by
  have add : ∀ (f g : Nat → Int) n, sumTo (fun k => f k + g k) n = sumTo f n + sumTo g n := by
    intro f g n
    induction n with
    | zero => rfl
    | succ n ih => simp only [sumTo, ih]; omega
  have sh : ∀ (f : Nat → Int) n, sumTo f (n + 1) = f 0 + sumTo (fun k => f (k + 1)) n := by
    intro f n
    induction n with
    | zero => simp [sumTo]
    | succ n ih => rw [sumTo, ih]; simp only [sumTo]; omega
  intro n
  induction n generalizing f with
  | zero => rfl
  | succ n ih =>
    rw [sh, ih (fun k => f (k + 1))]
    have e1 : sumTo (fun k => f (n + 1 - 1 - k)) (n + 1) = sumTo (fun k => f (n - k)) n + f 0 := by simp [sumTo]
    have e2 : sumTo (fun k => f (n - 1 - k + 1)) n = sumTo (fun k => f (n - k)) n := sumTo_congr fun k hk => by rw [show n - 1 - k + 1 = n - k by omega]
    rw [e1, e2]; omega
theorem sumTo_add (f g : Nat → Int) : ∀ n, sumTo (fun k => f k + g k) n = sumTo f n + sumTo g n
  | 0 => rfl
  | n + 1 => by simp only [sumTo, sumTo_add f g n]; omega
end
section
def cA (us : List T) (a : Nat) : Int := (us.getD a (0, 0)).1
theorem sumTo_le {f g : Nat → Int} : ∀ {n}, (∀ k, k < n → f k ≤ g k) → sumTo f n ≤ sumTo g n
  | 0, _ => Int.le_refl _
  | n + 1, h => by simp only [sumTo]; have := sumTo_le (n := n) fun k hk => h k (by omega); have := h n (by omega); omega
end
section
def rng (n : Nat) : List Int := (List.range n).map fun (k : Nat) => (k : Int)
end
section
def hkn (m : Nat) (ks : List Int) (so : Nat) : Prop := ∀ k, k < m → (ks[k]? = some (-1) ↔ so.testBit k = false)
theorem sumTo_zero {f : Nat → Int} : ∀ {n}, (∀ k, k < n → f k = 0) → sumTo f n = 0
  | 0, _ => rfl
  | n + 1, h => by simp only [sumTo]; rw [sumTo_zero (n := n) fun k hk => h k (by omega), h n (by omega)]; rfl
def non (m : Nat) : List Int := List.replicate m (-1)
theorem wk_non : ∀ us : List T, wk us (non us.length) = 6 ^ us.length
  | [] => rfl
  | t :: r => by
    have := wk_non r
    unfold non at *
    rw [List.length_cons, List.replicate_succ, wk, this, if_pos rfl, Int.pow_succ, Int.mul_comm]
end
section
theorem sumTo_one {f : Nat → Int} {j : Nat} : ∀ {n : Nat}, j < n → (∀ k, k < n → k ≠ j → f k = 0) → sumTo f n = f j
  | n + 1, hj, h => by
    simp only [sumTo]
    by_cases e : j = n
    · subst e
      rw [sumTo_zero fun k hk => h k (by omega) (by omega)]; omega
    · rw [sumTo_one (by omega) fun k hk hne => h k (by omega) hne, h n (by omega) (Ne.symm e)]; omega
end
section
attribute [-simp] DV.cells sliceD
attribute [local simp] cells_st cells_sl cells_i cells_y cells_b cells_s cells_w
theorem non_len (k : Nat) : (non k).length = k := by simp [non]
end
section
attribute [-simp] DV.cells sliceD
attribute [local simp] cells_st cells_sl cells_i cells_y cells_b cells_s cells_w
theorem cA_at {us : List T} {a : Int} (h0 : 0 ≤ a) (h1 : a < us.length) : ∃ c q : Int, atI (us.map e2) a = some (.st [.i c, .i q]) ∧ c = cA us a.toNat ∧ us.getD a.toNat (0, 0) = (c, q) := by
  have hl : a.toNat < us.length := by omega
  have e : us.getD a.toNat (0, 0) = us[a.toNat] := by simp [List.getD, hl]
  refine ⟨us[a.toNat].1, us[a.toNat].2, ?_, ?_, e⟩
  · simp only [atI, if_pos h0]
    show (us.map e2)[a.toNat]? = _
    simp [hl, e2]
  · unfold cA; rw [e]
end
section
attribute [-simp] DV.cells sliceD
attribute [local simp] cells_st cells_sl cells_i cells_y cells_b cells_s cells_w
theorem p6 : ∀ {n : Nat}, n ≤ 5 → (1 : Int) ≤ 6 ^ n ∧ (6 : Int) ^ n ≤ 7776 := by
  intro n hn
  have : n = 0 ∨ n = 1 ∨ n = 2 ∨ n = 3 ∨ n = 4 ∨ n = 5 := by omega
  rcases this with rfl | rfl | rfl | rfl | rfl | rfl <;> decide
def stW (us : List T) (tab : Nat) (os : List Int) (k : Nat) (ks : List Int) (w a sum sd : Int) : LS :=
  ⟨[(0, .sl 0 (us.map e2)), (1, .i tab), (2, .sl 0 (os.map .i)), (3, .i k), (4, .sl 0 (ks.map .i)), (5, .i w), (13, .i a), (14, .i sum), (15, .i sd)], []⟩
end
section
inductive PT where
  | stop
  | ask (k : Nat) (no yes : PT)
/-- one more is known: what the weights are then -/
theorem wk_put : ∀ {us : List T} {ks : List Int} {k : Nat}, ks.length = us.length → ks[k]? = some (-1) →
    ∃ w, wk us ks = 6 * w ∧ wk us (ks.set k 0) = w * (6 - (us.getD k (0, 0)).2) ∧ wk us (ks.set k 1) = w * (us.getD k (0, 0)).2
  | _, [], k, _, h => by simp at h
  | [], x :: r, k, hl, h => by simp at hl
  | t :: us, x :: r, 0, hl, h => by
    simp only [List.getElem?_cons_zero, Option.some.injEq] at h
    subst h
    refine ⟨wk us r, rfl, ?_, ?_⟩
    · show (6 - t.2) * wk us r = _
      rw [Int.mul_comm]; rfl
    · show t.2 * wk us r = _
      rw [Int.mul_comm]; rfl
  | t :: us, x :: r, k + 1, hl, h => by
    simp only [List.getElem?_cons_succ] at h
    obtain ⟨w, h1, h2, h3⟩ := wk_put (us := us) (by simpa using hl) h
    have e : ∀ ks : List Int, wk (t :: us) (x :: ks) = (if x = -1 then 6 else if x = 1 then t.2 else 6 - t.2) * wk us ks := fun _ => rfl
    generalize hc : (if x = -1 then 6 else if x = 1 then t.2 else 6 - t.2) = c at e
    refine ⟨c * w, ?_, ?_, ?_⟩
    · rw [e, h1, Int.mul_left_comm]
    · rw [List.set_cons_succ, e, h2, Int.mul_assoc]; rfl
    · rw [List.set_cons_succ, e, h3, Int.mul_assoc]; rfl
theorem agB_put {b : Bool} {s : Nat} : ∀ {ks : List Int} {k : Nat}, ks[k]? = some (-1) → agB (ks.set k (bI b)) s = (agB ks s && (s.testBit k == b)) := by
  intro ks k h
  rw [Bool.eq_iff_iff, Bool.and_eq_true, agB_iff, agB_iff, beq_iff_eq]
  have hk : k < ks.length := (List.getElem?_eq_some_iff.1 h).1
  constructor
  · intro H
    refine ⟨fun j v hj => ?_, ?_⟩
    · by_cases e : j = k
      · subst e; rw [h] at hj; injection hj with hj; exact .inl hj.symm
      · exact H j v (by rw [List.getElem?_set_ne (Ne.symm e)]; exact hj)
    · rcases H k (bI b) (by rw [List.getElem?_set_self hk]) with q | q
      · cases b <;> simp [bI] at q
      · exact (bI_inj.1 q).symm
  · rintro ⟨H, hb⟩ j v hj
    by_cases e : j = k
    · subst e
      rw [List.getElem?_set_self hk] at hj
      injection hj with hj
      right
      rw [← hj, hb]
    · rw [List.getElem?_set_ne (Ne.symm e)] at hj
      exact H j v hj
theorem bI_1 : bI true = 1 := rfl
theorem kOk_set {ks : List Int} (h : ks.all kOk = true) (k : Nat) (b : Bool) : (ks.set k (bI b)).all kOk = true := by
  rw [List.all_eq_true] at h ⊢
  intro x hx
  rcases List.mem_or_eq_of_mem_set hx with h1 | h1
  · exact h x h1
  · rw [h1]; cases b <;> decide
theorem non_all (m : Nat) : (non m).all kOk = true := by
  rw [List.all_eq_true]
  intro x hx
  rw [List.eq_of_mem_replicate hx]
  decide
theorem agB_non (m s : Nat) : agB (non m) s = true := by
  rw [agB_iff]
  intro k v h
  left
  exact List.eq_of_mem_replicate (List.mem_of_getElem? h)
def fcd (m : Nat) (t : List T) (ks : List Int) : Bool := foT m t ks != -1
end
section
abbrev C3 := Int × Int × Int
/-- a tree with the places of its choices -/
inductive LT where
  | stop
  | ask (p k : Nat) (no yes : LT)
def LT.size : LT → Nat
  | .stop => 0
  | .ask _ _ n y => 1 + n.size + y.size
/-- where one may go on to from a place -/
def nxt (N : Nat) (p : Nat) (a : Int) : Prop := a = -1 ∨ ((p : Int) + 1 ≤ a ∧ a ≤ (N : Int) - 1)
instance (N p : Nat) (a : Int) : Decidable (nxt N p a) := by unfold nxt; infer_instance
/-- the row holds the tree, from a place on -/
def enc (P : List C3) : Int → LT → Prop
  | a, .stop => a = -1
  | a, .ask p k n y => a = (p : Int) ∧ ∃ no ye, P[p]? = some ((k : Int), no, ye) ∧ nxt P.length p no ∧ nxt P.length p ye ∧ enc P no n ∧ enc P ye y
/-- where a row goes on to -/
def rfs : List C3 → List Int
  | [] => []
  | (_, no, ye) :: r => (if no = -1 then [] else [no]) ++ (if ye = -1 then [] else [ye]) ++ rfs r
end
section
def PT.size : PT → Nat
  | .stop => 0
  | .ask _ n y => 1 + n.size + y.size
def rot (P : List C3) : Int := if P = [] then -1 else 0
end
section
attribute [-simp] DV.cells
attribute [local simp] sliceD cells_st cells_sl cells_i cells_y cells_b cells_s cells_w
theorem lend_e3 (P : List C3) : lendL (P.map e3) = P.map e3 := by rw [lendL_map, List.map_map]; rfl
theorem adopt_e3 (o : Bool) (P : List C3) : adoptL o (P.map e3) = P.map e3 := by rw [adoptL_map, List.map_map]; rfl
theorem new_e3 (P : List C3) : allNewL (P.map e3) = true := by rw [allNewL_all, List.all_map, List.all_eq_true]; intro x _; rfl
theorem al_e3 (P : List C3) : allOldL (P.map e3) = true := by rw [allOldL_all, List.all_map, List.all_eq_true]; intro x _; rfl
theorem lt_e3 (n : Nat) (P : List C3) : lendL (List.take n (P.map e3)) = List.take n (P.map e3) := by rw [← List.map_take, lend_e3]
attribute [local simp] lend_e3 adopt_e3 new_e3 al_e3 lt_e3
def C3.nx (c : C3) (b : Bool) : Int := if b then c.2.2 else c.2.1
end
section
def aN : List Int → Nat
  | [] => 0
  | k :: r => (if k = -1 then 0 else 1) + 2 * aN r
def kn : List Int → Nat
  | [] => 0
  | k :: r => (if k = -1 then 0 else 1) + kn r
/-- how many ones there are, for small numbers -/
def pc (x : Nat) : Nat := x % 2 + x / 2 % 2 + x / 4 % 2 + x / 8 % 2 + x / 16 % 2
/-- what agrees, as a number -/
def lfW (ks : List Int) : BitVec 32 := agW ks 0 (4294967295#32)
end
section
abbrev Pts := List (Option (List Int))
/-- one goes on to where it is noted -/
def go3 (m : Nat) (t : List T) (N : Nat) (pts : Pts) (p : Int) (a : Int) (ks : List Int) : Prop :=
  (a = -1 ∧ fcd m t ks = true) ∨ (p + 1 ≤ a ∧ a ≤ (N : Int) - 1 ∧ pts[a.toNat]? = some (some ks))
structure Inv (m : Nat) (t : List T) (P : List C3) (p : Nat) (pts : Pts) : Prop where
  len : pts.length = P.length
  nd : (rfs (P.take p)).Nodup
  rng : ∀ a ∈ rfs (P.take p), 1 ≤ a ∧ a < P.length
  iff_ : ∀ a : Nat, a < P.length → (pts[a]? ≠ some none ↔ (a = 0 ∨ (a : Int) ∈ rfs (P.take p)))
  ok : ∀ (a : Nat) (ks : List Int), pts[a]? = some (some ks) → ks.length = m ∧ ks.all kOk = true ∧ fcd m t ks = false
  loc : ∀ q : Nat, q < p → ∃ (ks : List Int) (k no ye : Int), P[q]? = some (k, no, ye) ∧ pts[q]? = some (some ks) ∧ (0 ≤ k ∧ k < m) ∧ ks[k.toNat]? = some (-1) ∧ go3 m t P.length pts q no (ks.set k.toNat 0) ∧ go3 m t P.length pts q ye (ks.set k.toNat 1)
end
section
attribute [-simp] DV.cells
attribute [local simp] sliceD cells_st cells_sl cells_i cells_y cells_b cells_s cells_w
attribute [local simp] lend_e3 adopt_e3 new_e3 al_e3 lt_e3
def pv (m a : Int) (w v : BitVec 32) : DV := .st [.i m, .i a, .w w, .w v]
/-- the point at which so much is known -/
def pD (m : Nat) (t : List T) (ks : List Int) : DV := pv m (aN ks) (lfW ks) (tsW t)
/-- 64 bits: how many are ones -/
theorem c_OnesCount64 {n : Nat} (h : n < 32) : call lf n_math_bits_OnesCount64 [.q n] = some (.i (pc n), []) := by
  rw [call_k lf n_math_bits_OnesCount64 _ (F := F_math_bits_OnesCount64) rfl rfl]
  have c : n = 0 ∨ n = 1 ∨ n = 2 ∨ n = 3 ∨ n = 4 ∨ n = 5 ∨ n = 6 ∨ n = 7 ∨ n = 8 ∨ n = 9 ∨ n = 10 ∨ n = 11 ∨ n = 12 ∨ n = 13 ∨ n = 14 ∨ n = 15 ∨ n = 16 ∨ n = 17 ∨ n = 18 ∨ n = 19 ∨ n = 20 ∨ n = 21 ∨ n = 22 ∨ n = 23 ∨ n = 24 ∨ n = 25 ∨ n = 26 ∨ n = 27 ∨ n = 28 ∨ n = 29 ∨ n = 30 ∨ n = 31 := by omega
  rcases c with rfl | rfl | rfl | rfl | rfl | rfl | rfl | rfl | rfl | rfl | rfl | rfl | rfl | rfl | rfl | rfl | rfl | rfl | rfl | rfl | rfl | rfl | rfl | rfl | rfl | rfl | rfl | rfl | rfl | rfl | rfl | rfl <;>
    simp [F_math_bits_OnesCount64, pc, andI, wr, Go.IntKind.wrap, Go.IntKind.signed, Go.IntKind.bits]
theorem c_OnesCount {n : Nat} (h : n < 32) : call lf n_math_bits_OnesCount [.q n] = some (.i (pc n), []) := by
  have C := c_OnesCount64 h
  rw [call_k lf n_math_bits_OnesCount _ (F := F_math_bits_OnesCount) rfl rfl]
  simp [F_math_bits_OnesCount, C]
theorem c_impl_sizeOf {n : Nat} (h : n < 32) : call lf n_impl_sizeOf [.i n] = some (.i (pc n), []) := by
  have C := c_OnesCount h
  have e : ((n : Int) % 18446744073709551616).toNat = n := by omega
  rw [call_k lf n_impl_sizeOf _ (F := F_impl_sizeOf) rfl rfl]
  simp [F_impl_sizeOf, C, e]
end
section
attribute [-simp] DV.cells
attribute [local simp] sliceD cells_st cells_sl cells_i cells_y cells_b cells_s cells_w
attribute [local simp] lend_e3 adopt_e3 new_e3 al_e3 lt_e3
def e4 (m : Nat) (t : List T) : Option (List Int) → DV
  | some ks => pD m t ks
  | none => pv 0 0 (0#32) (0#32)
end
section
attribute [-simp] DV.cells
attribute [local simp] sliceD cells_st cells_sl cells_i cells_y cells_b cells_s cells_w
attribute [local simp] lend_e3 adopt_e3 new_e3 al_e3 lt_e3
structure Fin (m : Nat) (t : List T) (P : List C3) (L : LT) (pts : Pts) : Prop where
  inv : Inv m t P P.length pts
  start : go3 m t P.length pts (-1) (rot P) (non m)
end
section
def pA (us : List T) (k : Nat) : Int := (us.getD k (0, 0)).2
theorem pA_bd {us : List T} (h : us.all tOk = true) {k : Nat} (hk : k < us.length) : 1 ≤ pA us k ∧ pA us k ≤ 5 := by
  unfold pA
  have e : us.getD k (0, 0) = us[k] := by simp [List.getD, hk]
  rw [e]
  have := tOk_iff.1 (List.all_eq_true.1 h us[k] (List.getElem_mem hk))
  omega
end
section
structure CS where
  c : Nat → Int
  p : Nat → Int
  q : Nat → Int
  lA : Nat → Nat → Bool
  lB : Nat → Nat → Bool
  ch : List Nat → Nat → Nat
def rk (l : Nat → Nat → Bool) (S : List Nat) (i : Nat) : Nat := S.countP fun x => l x i
/-- what the rule costs -/
def vR (C : CS) : Nat → List Nat → Nat → Int
  | 0, _, _ => 0
  | f + 1, S, k => if k = 0 ∨ S.length < k then 0 else 6 ^ S.length * C.c (C.ch S k) + C.p (C.ch S k) * vR C f (S.erase (C.ch S k)) (k - 1) + C.q (C.ch S k) * vR C f (S.erase (C.ch S k)) k
def CS.V (C : CS) (S : List Nat) (k : Nat) : Int := vR C S.length S k
def CS.W (C : CS) (S : List Nat) (k i : Nat) : Int := 6 ^ S.length * C.c i + C.p i * C.V (S.erase i) (k - 1) + C.q i * C.V (S.erase i) k
end
section
/-- tests, the two orders by ratios, and the least test of both -/
def tltA (us : List T) (a b : Nat) : Bool := decide (cA us a * pA us b < cA us b * pA us a ∨ cA us b * pA us a = cA us a * pA us b ∧ a < b)
def tltB (us : List T) (a b : Nat) : Bool := decide (cA us a * (6 - pA us b) < cA us b * (6 - pA us a) ∨ cA us b * (6 - pA us a) = cA us a * (6 - pA us b) ∧ a < b)
def bothL (us : List T) (S : List Nat) (k : Nat) : List Nat := S.filter fun i => decide (rk (tltA us) S i < k) && decide (rk (tltB us) S i + k ≤ S.length)
def cs (us : List T) : CS := ⟨cA us, pA us, fun i => 6 - pA us i, tltA us, tltB us, fun S k => (bothL us S k).headD 0⟩
end
section
/-- what is not known, and how many yes -/
def unk (m : Nat) (ks : List Int) : List Nat := (List.range m).filter fun k => ks[k]? == some (-1)
def hdN (m s : Nat) : Nat := (List.range m).countP fun k => s.testBit k
end
section
theorem others_all {us : List T} (h : us.all tOk = true) : (us.map other).all tOk = true := by
  rw [List.all_map, List.all_eq_true]
  intro x hx
  exact other_ok (List.all_eq_true.1 h x hx)
/-- the weights of counts -/
def cwN (us : List T) (k : Nat) : Int := sumTo (fun s => if k ≤ hdN us.length s then wt us s else 0) (2 ^ us.length)
theorem hd_le (m s : Nat) : hdN m s ≤ m := by
  have : hdN m s ≤ (List.range m).length := List.countP_le_length
  rwa [List.length_range] at this
theorem hd_opp {m : Nat} {s : Nat} (hs : s < 2 ^ m) : hdN m (opp m s) + hdN m s = m := by
  have hs' : s < 2 ^ (m : Int).toNat := by rw [Int.toNat_natCast]; exact hs
  have key : ∀ l : List Nat, (∀ k ∈ l, k < m) → l.countP (fun k => (opp m s).testBit k) + l.countP (fun k => s.testBit k) = l.length := fun l => by
    induction l with
    | nil => intro _; rfl
    | cons a r ih =>
      intro h
      have := ih fun x hx => h x (List.mem_cons_of_mem _ hx)
      have b := opp_bit hs' (a := a) (by rw [Int.toNat_natCast]; exact h a List.mem_cons_self)
      rw [List.countP_cons, List.countP_cons, b, List.length_cons]
      cases s.testBit a <;> simp <;> omega
  have := key (List.range m) fun k hk => List.mem_range.1 hk
  rwa [List.length_range] at this
theorem cw_other {us : List T} (h1 : 1 ≤ us.length) (h5 : us.length ≤ 5) {k : Nat} (hk : 1 ≤ k ∧ k ≤ us.length) : cwN us k + cwN (us.map other) (us.length + 1 - k) = 6 ^ us.length := by
  obtain ⟨p1, p2, p3⟩ := pow5 (m := us.length) (by omega) (by omega)
  simp only [Int.toNat_natCast] at p1 p2 p3
  unfold cwN
  rw [List.length_map, sumTo_rev (fun s => if us.length + 1 - k ≤ hdN us.length s then wt (us.map other) s else 0), ← sumTo_add, ← wt_sum us]
  refine sumTo_congr fun s hs => ?_
  have e : 2 ^ us.length - 1 - s = opp us.length s := by unfold opp; rw [Int.toNat_natCast]
  rw [e]
  have w := wt_other us s (by omega) (by omega)
  have e' : ((opp us.length s : Nat) : Int) = 2 ^ us.length - 1 - s := by rw [← e]; omega
  rw [e', w]
  have := hd_opp hs
  by_cases c : k ≤ hdN us.length s
  · rw [if_pos c, if_neg (by omega)]; omega
  · rw [if_neg c, if_pos (by omega)]; omega
/-- the sum of all counts is the sum of all chances -/
theorem sumTo_swap (f : Nat → Nat → Int) (n : Nat) : ∀ m, sumTo (fun i => sumTo (fun s => f i s) n) m = sumTo (fun s => sumTo (fun i => f i s) m) n
  | 0 => by simp only [sumTo]; rw [sumTo_zero fun _ _ => rfl]
  | m + 1 => by
    simp only [sumTo]
    rw [sumTo_swap f n m, ← sumTo_add]
theorem wt_bit {us : List T} (h : us.all tOk = true) {i : Nat} (hi : i < us.length) : sumTo (fun s => if s.testBit i then wt us s else 0) (2 ^ us.length) * 6 = 6 ^ us.length * pA us i := by
  have h1 : (non us.length)[i]? = some (-1) := by unfold non; rw [List.getElem?_replicate, if_pos hi]
  obtain ⟨w, w1, _, w3⟩ := wk_put (us := us) (ks := non us.length) (k := i) (non_len _) h1
  change wk us ((non us.length).set i 1) = w * pA us i at w3
  rw [wk_non] at w1
  have k1 := kOk_set (non_all us.length) i true
  rw [bI_1] at k1
  have a := wa_wk (ts := us) (ks := (non us.length).set i 1) (by rw [List.length_set]; exact non_len _) k1
  rw [w3] at a
  have e : wa us ((non us.length).set i 1) = sumTo (fun s => if s.testBit i then wt us s else 0) (2 ^ us.length) := by
    unfold wa
    refine sumTo_congr fun s _ => ?_
    have p := agB_put (b := true) (s := s) h1
    rw [bI_1, agB_non, Bool.true_and] at p
    have p' : ag ((non us.length).set i 1) (s : Int) = (s.testBit i == true) := p
    rw [p']
    cases s.testBit i <;> simp
  rw [← e, a, w1]
  grind
theorem hd_sum (m s : Nat) : sumTo (fun i => if s.testBit i then 1 else 0) m = (hdN m s : Nat) := by
  induction m with
  | zero => rfl
  | succ m ih =>
    have e : hdN (m + 1) s = hdN m s + if s.testBit m then 1 else 0 := by
      unfold hdN
      rw [List.range_succ, List.countP_append, List.countP_cons, List.countP_nil]
      simp
    simp only [sumTo]
    rw [ih, e]
    split <;> simp
theorem le_sum (h m : Nat) (hm : h ≤ m) (w : Int) : sumTo (fun k => if k + 1 ≤ h then w else 0) m = h * w := by
  induction m generalizing h with
  | zero => have : h = 0 := by omega
            subst this; simp [sumTo]
  | succ m ih =>
    simp only [sumTo]
    by_cases c : h = m + 1
    · subst c
      have e : sumTo (fun k => if k + 1 ≤ m + 1 then w else 0) m = sumTo (fun k => if k + 1 ≤ m then w else 0) m := sumTo_congr fun k hk => by rw [if_pos (by omega), if_pos (by omega)]
      rw [e, ih m (Nat.le_refl _), if_pos (Nat.le_refl _)]
      have : ((m + 1 : Nat) : Int) = m + 1 := by omega
      rw [this, Int.add_mul, Int.one_mul]
    · rw [ih h (by omega), if_neg (by omega), Int.add_zero]
theorem cw_sum {us : List T} (h : us.all tOk = true) : 6 * sumTo (fun k => cwN us (k + 1)) us.length = 6 ^ us.length * sumTo (fun i => pA us i) us.length := by
  have a : sumTo (fun k => cwN us (k + 1)) us.length = sumTo (fun s => (hdN us.length s : Nat) * wt us s) (2 ^ us.length) := by
    unfold cwN
    rw [sumTo_swap (fun k s => if k + 1 ≤ hdN us.length s then wt us s else 0)]
    exact sumTo_congr fun s _ => le_sum _ _ (hd_le _ _) _
  have b : sumTo (fun s => (hdN us.length s : Nat) * wt us s) (2 ^ us.length) = sumTo (fun i => sumTo (fun s => if s.testBit i then wt us s else 0) (2 ^ us.length)) us.length := by
    rw [sumTo_swap]
    refine sumTo_congr fun s _ => ?_
    rw [← hd_sum us.length s]
    have : ∀ n, sumTo (fun i => if s.testBit i then (1 : Int) else 0) n * wt us s = sumTo (fun i => if s.testBit i then wt us s else 0) n := fun n => by
      induction n with
      | zero => simp [sumTo]
      | succ n ih =>
        simp only [sumTo]
        rw [Int.add_mul, ih]
        split <;> simp
    exact this us.length
  rw [a, b, ← sumTo_mul, ← sumTo_mul]
  refine sumTo_congr fun i hi => ?_
  rw [Int.mul_comm 6]
  exact wt_bit h hi
theorem cw_mono {us : List T} (h : us.all tOk = true) (h5 : us.length ≤ 5) (k : Nat) : cwN us (k + 1) ≤ cwN us k := by
  unfold cwN
  refine sumTo_le fun s _ => ?_
  have := (wt_le h h5 (s : Int)).1
  by_cases c : k + 1 ≤ hdN us.length s
  · rw [if_pos c, if_pos (by omega)]
    exact Int.le_refl _
  · rw [if_neg c]
    split <;> omega
end
section
/-- one more of the first ones -/
def stpF (so n a k : Nat) : Nat := if pc a < n ∧ so.testBit k = true then a ||| 2 ^ k else a
def fF (so n : Nat) (l : List Nat) : Nat := l.foldl (stpF so n) 0
/-- what is left, in ascending order -/
def Sl (m so : Nat) : List Nat := (List.range m).filter fun k => so.testBit k
theorem pcs_fin : ∀ (m : _root_.Fin 6) (a : _root_.Fin 32), a.val < 2 ^ m.val → pc a.val = hdN m.val a.val := by decide +kernel
theorem pcs {m a : Nat} (hm : m ≤ 5) (h : a < 2 ^ m) : pc a = hdN m a := by
  have : (2 : Nat) ^ m ≤ 2 ^ 5 := Nat.pow_le_pow_right (by omega) hm
  exact pcs_fin ⟨m, by omega⟩ ⟨a, by omega⟩ h
/-- the next one -/
def nx (us : List T) (so k : Nat) : Nat := (cs us).ch (Sl us.length so) k
end
section
attribute [-simp] DV.cells sliceD
attribute [local simp] cells_st cells_sl cells_i cells_y cells_b cells_s cells_w
/-- how many bits are ones, one by one -/
def hb : Nat → Nat → Nat
  | 0, _ => 0
  | f + 1, n => n % 2 + hb f (n / 2)
theorem hb_zero : ∀ f : Nat, hb f 0 = 0
  | 0 => rfl
  | f + 1 => by simp [hb, hb_zero f]
theorem hb_pc (n : Nat) : hb 5 n = pc n := by
  simp only [hb, pc]
  omega
theorem heads_loop : ∀ (f n a : Nat), n < 2 ^ f → f ≤ 5 → a + f ≤ 100 → ex lf F_spec_l8Heads_W0 ⟨[(0, .i n), (3, .i a)], []⟩ = some (.exit 0, ⟨[(0, .i 0), (3, .i ((a + hb f n : Nat)))], []⟩)
  | 0, n, a, h, _, _ => by
    have e : n = 0 := by simpa using h
    subst e
    rw [w_spec_l8Heads_0]
    simp [F_spec_l8Heads_L0, hb]
  | f + 1, n, a, h, hf, ha => by
    by_cases e : n = 0
    · subst e
      rw [w_spec_l8Heads_0, hb_zero]
      simp [F_spec_l8Heads_L0]
    · have p : (2 : Nat) ^ (f + 1) ≤ 2 ^ 5 := Nat.pow_le_pow_right (by omega) (by omega)
      have I := heads_loop f (n / 2) (a + n % 2) (by rw [Nat.pow_succ] at h; omega) (by omega) (by omega)
      have t1 : (n : Int).tmod 2 = ((n % 2 : Nat) : Int) := by rw [Int.tmod_eq_emod_of_nonneg (by omega)]; omega
      have t2 : (n : Int).tdiv 2 = ((n / 2 : Nat) : Int) := by rw [Int.tdiv_eq_ediv_of_nonneg (by omega)]; omega
      have w1 : wr ((n : Int).tdiv 2) = ((n / 2 : Nat) : Int) := by rw [t2]; exact wr_id (by omega) (by omega)
      have w3 : wr ((n : Int) / 2) = ((n / 2 : Nat) : Int) := by rw [wr_id (by omega) (by omega)]; omega
      have w4 : wr ((a : Int) + (n : Int) % 2) = ((a + n % 2 : Nat) : Int) := by rw [wr_id (by omega) (by omega)]; omega
      have w2 : wr ((a : Int) + (n : Int).tmod 2) = ((a + n % 2 : Nat) : Int) := by rw [t1, wr_id (by omega) (by omega)]; omega
      have g : 0 < n := by omega
      have e2 : a + hb (f + 1) n = a + n % 2 + hb f (n / 2) := by simp only [hb]; omega
      rw [w_spec_l8Heads_0, e2]
      simp [F_spec_l8Heads_L0, g, w1, w2, w3, w4, I, -Int.natCast_add, -Int.natCast_ediv, -Int.natCast_emod]
theorem c_spec_l8Heads {n : Nat} (h : n < 32) : call lf n_spec_l8Heads [.i n] = some (.i (pc n), []) := by
  have L := heads_loop 5 n 0 (by omega) (by omega) (by omega)
  rw [hb_pc, Nat.zero_add] at L
  rw [call_k lf n_spec_l8Heads _ (F := F_spec_l8Heads) rfl rfl]
  simp only [Int.natCast_zero] at L
  simp [F_spec_l8Heads, L]
/-- may the count be asked? -/
def ctOk (us : List T) (k : Int) : Bool := tsOk us && decide (1 ≤ k ∧ k ≤ us.length)
theorem ctOk_iff {us : List T} {k : Int} : ctOk us k = true ↔ tsOk us = true ∧ 1 ≤ k ∧ k ≤ us.length := by
  unfold ctOk
  rw [Bool.and_eq_true, decide_eq_true_eq]
theorem c_spec_CountOk (us : List T) (k : Int) (ha : (us.length : Int) < 1099511627776) : call lf n_spec_CountOk [.sl 0 (us.map e2), .i k] = some (.b (ctOk us k), []) := by
  have C1 := c_spec_TestsOk us ha
  have C2 := c_spec_l1In k 1 us.length
  rw [call_k lf n_spec_CountOk _ (F := F_spec_CountOk) rfl rfl]
  unfold ctOk
  cases h : tsOk us <;> rw [h] at C1 <;> simp [F_spec_CountOk, C1, C2]
/-- what so many at least weigh, as far as is told -/
def cwT (us : List T) (k n : Nat) : Int := sumTo (fun s => if k ≤ hdN us.length s then wt us s else 0) n
theorem cwT_bd {us : List T} (h : tsOk us = true) (k n : Nat) (hn : n ≤ 32) : 0 ≤ cwT us k n ∧ cwT us k n ≤ 248832 := by
  have h' := tsOk_iff.1 h
  have := sumTo_nonneg (f := fun s => if k ≤ hdN us.length s then wt us s else 0) (B := 7776) (by omega) n (fun s _ => by
    have := wt_le h'.2 (by omega) (s : Int)
    show 0 ≤ (if k ≤ hdN us.length s then wt us s else 0) ∧ (if k ≤ hdN us.length s then wt us s else 0) ≤ (7776 : Int)
    split <;> omega)
  unfold cwT
  omega
def cwL (us : List T) (k : Int) : Int := if ctOk us k then cwN us k.toNat else -1
def stCw (us : List T) (k : Nat) (i : Nat) : LS := ⟨[(0, .sl 0 (us.map e2)), (1, .i k), (5, .i (cwT us k i)), (6, .i i)], []⟩
set_option maxHeartbeats 5000000 in
theorem c_spec_CountWeight (us : List T) (k : Int) (ha : (us.length : Int) < 1099511627776) : call lf n_spec_CountWeight [.sl 0 (us.map e2), .i k] = some (.i (cwL us k), []) := by
  have C1 := c_spec_CountOk us k ha
  rw [call_k lf n_spec_CountWeight _ (F := F_spec_CountWeight) rfl rfl]
  unfold cwL
  cases h : ctOk us k with
  | false =>
    rw [h] at C1
    simp [F_spec_CountWeight, C1]
  | true =>
    rw [h] at C1
    obtain ⟨h1, k1, k2⟩ := ctOk_iff.1 h
    obtain ⟨n, rfl⟩ := Int.eq_ofNat_of_zero_le (show 0 ≤ k by omega)
    have ht := tsOk_iff.1 h1
    obtain ⟨p0, p1, p2⟩ := pow5 (m := us.length) (by omega) (by omega)
    rw [Int.toNat_natCast] at p0 p1 p2
    have sh : shlI 1 (us.length : Nat) = ((2 ^ us.length : Nat) : Int) := by rw [shl1 (by omega) (by omega), Int.toNat_natCast, p2]
    have ul : (us.map e2).length = us.length := by simp
    have ln : ¬ ((us.length : Nat) : Int) < 0 := by omega
    have L := loop_count (lf := lf) (L := F_spec_CountWeight_L0) (2 ^ us.length) (fun i => stCw us n i) (x := .exit 0) (R := stCw us n (2 ^ us.length)) (fun i hi => by
      have C2 := c_spec_l8Heads (n := i) (by omega)
      have C3 := c_spec_l1Weight us (i : Nat) h1 (by omega)
      rw [pcs (by omega) hi] at C2
      have b1 := cwT_bd h1 n i (by omega)
      have b2 := cwT_bd h1 n (i + 1) (by omega)
      have e : cwT us n (i + 1) = cwT us n i + if n ≤ hdN us.length i then wt us i else 0 := rfl
      have w1 : wr ((i : Int) + 1) = ((i + 1 : Nat) : Int) := by rw [wr_id (by omega) (by omega)]; omega
      have hi' : (i : Int) < ((2 ^ us.length : Nat) : Int) := by omega
      unfold stCw
      rw [e]
      rw [e] at b2
      generalize cwT us n i = z at *
      generalize wt us i = v at *
      generalize (2 ^ us.length : Nat) = N at *
      by_cases hh : n ≤ hdN us.length i
      · rw [if_pos hh] at b2
        rw [if_pos hh]
        have w2 : wr (z + v) = z + v := wr_id (by omega) (by omega)
        have h2 : (n : Int) ≤ (hdN us.length i : Nat) := by omega
        generalize hdN us.length i = d at *
        simp [F_spec_CountWeight_L0, ul, ln, sh, hi, hi', C2, C3, h2, hh, w1, w2, -Int.natCast_add]
      · rw [if_neg hh]
        have h2 : ¬ (n : Int) ≤ (hdN us.length i : Nat) := by omega
        generalize hdN us.length i = d at *
        simp [F_spec_CountWeight_L0, ul, ln, sh, hi, hi', C2, h2, hh, w1, -Int.natCast_add]) (by
      have nl : ¬ ((2 ^ us.length : Nat) : Int) < ((2 ^ us.length : Nat) : Int) := by omega
      unfold stCw
      generalize (2 ^ us.length : Nat) = N at *
      simp [F_spec_CountWeight_L0, ul, ln, sh]) (by simp)
    have z : cwT us n 0 = 0 := rfl
    have fin : cwT us n (2 ^ us.length) = cwN us n := rfl
    unfold stCw at L
    rw [z, fin] at L
    simp only [Int.natCast_zero] at L
    change ex lf F_spec_CountWeight_W0 _ = _ at L
    rw [Int.toNat_natCast]
    simp [F_spec_CountWeight, C1, L]
end
section
attribute [-simp] DV.cells
attribute [local simp] sliceD cells_st cells_sl cells_i cells_y cells_b cells_s cells_w
theorem us_cell {us : List T} (h : us.all tOk = true) {i : Nat} (hi : i < us.length) : ∃ c q : Int, atI (us.map e2) (i : Nat) = some (.st [.i c, .i q]) ∧ atN (us.map e2) i = some (.st [.i c, .i q]) ∧ c = cA us i ∧ q = pA us i ∧ (1 ≤ c ∧ c ≤ 9) ∧ (1 ≤ q ∧ q ≤ 5) := by
  obtain ⟨c, q, c1, c2, c3⟩ := cA_at (us := us) (a := (i : Int)) (by omega) (by omega)
  rw [Int.toNat_natCast] at c2 c3
  have e : us.getD i (0, 0) = us[i] := by simp [List.getD, hi]
  have tq := tOk_iff.1 (List.all_eq_true.1 h us[i] (List.getElem_mem hi))
  rw [← e, c3] at tq
  refine ⟨c, q, c1, ?_, c2, by unfold pA; rw [c3], tq.1, tq.2⟩
  rw [← c1]
  simp only [atI, if_pos (Int.natCast_nonneg i)]
  rfl
theorem full_hd {m : Nat} (hm : m ≤ 5) : hdN m (2 ^ m - 1) = m := by
  have : m = 0 ∨ m = 1 ∨ m = 2 ∨ m = 3 ∨ m = 4 ∨ m = 5 := by omega
  rcases this with rfl | rfl | rfl | rfl | rfl | rfl <;> decide +kernel
end
section
attribute [-simp] DV.cells
attribute [local simp] sliceD cells_st cells_sl cells_i cells_y cells_b cells_s cells_w
theorem c_impl_CountOk (us : List T) (k : Int) (ha : (us.length : Int) < 1099511627776) : call lf n_impl_CountOk [.sl 0 (us.map e2), .i k] = some (.b (ctOk us k), []) := by
  have C1 := c_impl_TestsOk us ha
  have C2 := c_impl_isWithin k 1 us.length
  rw [call_k lf n_impl_CountOk _ (F := F_impl_CountOk) rfl rfl]
  unfold ctOk
  cases h : tsOk us <;> rw [h] at C1 <;> simp [F_impl_CountOk, C1, C2]
def stCwi (us : List T) (k : Nat) (N : Int) (i : Nat) : LS := ⟨[(0, .sl 0 (us.map e2)), (1, .i k), (5, .i (cwT us k i)), (13, .i N), (14, .i i)], []⟩
set_option maxHeartbeats 4000000 in
theorem c_impl_CountWeight (us : List T) (k : Int) (ha : (us.length : Int) < 1099511627776) : call lf n_impl_CountWeight [.sl 0 (us.map e2), .i k] = some (.i (cwL us k), []) := by
  have C1 := c_impl_CountOk us k ha
  rw [call_k lf n_impl_CountWeight _ (F := F_impl_CountWeight) rfl rfl]
  unfold cwL
  cases h : ctOk us k with
  | false =>
    rw [h] at C1
    simp [F_impl_CountWeight, C1]
  | true =>
    rw [h] at C1
    obtain ⟨h1, k1, k2⟩ := ctOk_iff.1 h
    obtain ⟨n, rfl⟩ := Int.eq_ofNat_of_zero_le (show 0 ≤ k by omega)
    have ht := tsOk_iff.1 h1
    obtain ⟨p0, p1, p2⟩ := pow5 (m := us.length) (by omega) (by omega)
    have S := c_impl_statesOf us.length (by omega) (by omega)
    rw [← p2] at S
    rw [Int.toNat_natCast] at p0 p1 p2 S
    have L := loop_count (lf := lf) (L := F_impl_CountWeight_L0) (2 ^ us.length) (fun i => stCwi us n ((2 ^ us.length : Nat) : Int) i) (x := .exit 0) (R := stCwi us n ((2 ^ us.length : Nat) : Int) (2 ^ us.length)) (fun i hi => by
      have C2 := c_impl_sizeOf (n := i) (by omega)
      have C3 := c_impl_WeightOf us (i : Nat) ha
      have so : stOk us.length (i : Nat) = true := by unfold stOk; simp [nOk]; omega
      have wo : wtOf us (i : Nat) = wt us (i : Nat) := by unfold wtOf; rw [h1, so]; rfl
      rw [wo] at C3
      rw [pcs (by omega) hi] at C2
      have b1 := cwT_bd h1 n i (by omega)
      have b2 := cwT_bd h1 n (i + 1) (by omega)
      have e : cwT us n (i + 1) = cwT us n i + if n ≤ hdN us.length i then wt us i else 0 := rfl
      have w1 : wr ((i : Int) + 1) = ((i + 1 : Nat) : Int) := by rw [wr_id (by omega) (by omega)]; omega
      have hi' : (i : Int) < ((2 ^ us.length : Nat) : Int) := by omega
      unfold stCwi
      rw [e]
      rw [e] at b2
      generalize cwT us n i = z at *
      generalize wt us i = v at *
      generalize (2 ^ us.length : Nat) = N at *
      by_cases hh : n ≤ hdN us.length i
      · rw [if_pos hh] at b2
        rw [if_pos hh]
        have w2 : wr (z + v) = z + v := wr_id (by omega) (by omega)
        have h2 : (n : Int) ≤ (hdN us.length i : Nat) := by omega
        generalize hdN us.length i = d at *
        simp [F_impl_CountWeight_L0, hi, hi', C2, C3, h2, hh, w1, w2, -Int.natCast_add]
      · rw [if_neg hh]
        have h2 : ¬ (n : Int) ≤ (hdN us.length i : Nat) := by omega
        generalize hdN us.length i = d at *
        simp [F_impl_CountWeight_L0, hi, hi', C2, h2, hh, w1, -Int.natCast_add]) (by
      unfold stCwi
      generalize (2 ^ us.length : Nat) = N at *
      simp [F_impl_CountWeight_L0]) (by simp)
    have z : cwT us n 0 = 0 := rfl
    have fin : cwT us n (2 ^ us.length) = cwN us n := rfl
    unfold stCwi at L
    rw [z, fin] at L
    simp only [Int.natCast_zero] at L
    change ex lf F_impl_CountWeight_W0 _ = _ at L
    rw [Int.toNat_natCast]
    generalize (2 ^ us.length : Nat) = N at *
    simp [F_impl_CountWeight, C1, S, L]
end
section
attribute [-simp] DV.cells
attribute [local simp] sliceD cells_st cells_sl cells_i cells_y cells_b cells_s cells_w
theorem quo29 {x : Int} (h0 : 0 ≤ x) (h1 : x < 30) : x.tdiv 29 = 0 ∨ x.tdiv 29 = 1 := by
  rw [Int.tdiv_eq_ediv_of_nonneg h0]; omega
set_option maxHeartbeats 4000000 in
theorem c_l20Count {bs : List Nat} (hb : ∀ y ∈ bs, y < 256) (hl : bs.length ≤ 2000) {p : Int} (h0 : 0 ≤ p) (h1 : p < 500000) :
    ∃ (us : List T) (k p' : Int), us.length ≤ 5 ∧ (-10 ≤ k ∧ k ≤ 10) ∧ call lf n_spec_l20Count [.ref (.st [.sl 0 (bs.map .y), .i p])] = some (.tup [.fr 2 (us.map e2), .i k], [.st [.sl 0 (bs.map .y), .i p']]) := by
  obtain ⟨us, q, u1, q1, q2, h⟩ := c_l20Tests hb hl (p := p) (n := 14) h0 (by omega) (by omega) (by omega)
  obtain ⟨n, hn⟩ : ∃ n, max (us.length : Int) 1 = n := ⟨_, rfl⟩
  have k1 := c_pick hb hl (p := q) (n := n) (by omega) (by omega) (by omega)
  have a1 := pk_bound hb (p := q) (n := n) (by omega) (by omega) (by omega)
  have k2 := c_pick hb hl (p := q + 1) (n := 30) (by omega) (by omega) (by omega)
  have a2 := pk_bound hb (p := q + 1) (n := 30) (by omega) (by omega) (by omega)
  have k3 := c_pick hb hl (p := q + 1 + 1) (n := 40) (by omega) (by omega) (by omega)
  have a3 := pk_bound hb (p := q + 1 + 1) (n := 40) (by omega) (by omega) (by omega)
  have q2' := quo29 a2.1 a2.2
  have q3' := quo39 a3.1 a3.2
  have w1 : wr ((pk bs (q + 1) 30).tdiv 29) = (pk bs (q + 1) 30).tdiv 29 := wr_id (by omega) (by omega)
  have w2 : wr ((pk bs (q + 1 + 1) 40).tdiv 39) = (pk bs (q + 1 + 1) 40).tdiv 39 := wr_id (by omega) (by omega)
  have w3 : wr (1 + pk bs q n) = 1 + pk bs q n := wr_id (by omega) (by omega)
  have w4 : wr (1 + pk bs q n + (pk bs (q + 1) 30).tdiv 29) = 1 + pk bs q n + (pk bs (q + 1) 30).tdiv 29 := wr_id (by omega) (by omega)
  have w5 : wr ((pk bs (q + 1 + 1) 40).tdiv 39 * 2) = (pk bs (q + 1 + 1) 40).tdiv 39 * 2 := wr_id (by omega) (by omega)
  have w6 : wr (1 + pk bs q n + (pk bs (q + 1) 30).tdiv 29 - (pk bs (q + 1 + 1) 40).tdiv 39 * 2) = 1 + pk bs q n + (pk bs (q + 1) 30).tdiv 29 - (pk bs (q + 1 + 1) 40).tdiv 39 * 2 := wr_id (by omega) (by omega)
  refine ⟨us, 1 + pk bs q n + (pk bs (q + 1) 30).tdiv 29 - (pk bs (q + 1 + 1) 40).tdiv 39 * 2, q + 1 + 1 + 1, u1, by omega, ?_⟩
  rw [call_k lf n_spec_l20Count _ (F := F_spec_l20Count) rfl rfl]
  simp [F_spec_l20Count, h, hn, k1, k2, k3, w1, w2, w3, w4, w5, w6]
theorem c_DrawCountOk {bs : List Nat} (hb : ∀ y ∈ bs, y < 256) (hl : bs.length ≤ 1048576) :
    ∃ (us : List T) (k : Int), us.length ≤ 5 ∧ (-10 ≤ k ∧ k ≤ 10) ∧ call lf n_spec_DrawCountOk [.sl 0 (bs.map .y)] = some (.tup [.fr 2 (us.map e2), .i k], []) := by
  obtain ⟨c1, c2⟩ := take_b hb
  have o := c_open hl
  generalize bs.take 2000 = cs at *
  obtain ⟨us, k, p', u1, k1, h⟩ := c_l20Count c1 c2 (p := 0) (by omega) (by omega)
  refine ⟨us, k, u1, k1, ?_⟩
  have tk2 : List.take us.length (us.map e2) = us.map e2 := List.take_of_length_le (by simp)
  rw [call_k lf n_spec_DrawCountOk _ (F := F_spec_DrawCountOk) rfl rfl]
  simp [F_spec_DrawCountOk, o, h, tk2]
theorem c_DrawCountWeight {bs : List Nat} (hb : ∀ y ∈ bs, y < 256) (hl : bs.length ≤ 1048576) :
    ∃ (us : List T) (k : Int), us.length ≤ 5 ∧ (-10 ≤ k ∧ k ≤ 10) ∧ call lf n_spec_DrawCountWeight [.sl 0 (bs.map .y)] = some (.tup [.fr 2 (us.map e2), .i k], []) := by
  obtain ⟨c1, c2⟩ := take_b hb
  have o := c_open hl
  generalize bs.take 2000 = cs at *
  obtain ⟨us, k, p', u1, k1, h⟩ := c_l20Count c1 c2 (p := 0) (by omega) (by omega)
  refine ⟨us, k, u1, k1, ?_⟩
  have tk2 : List.take us.length (us.map e2) = us.map e2 := List.take_of_length_le (by simp)
  rw [call_k lf n_spec_DrawCountWeight _ (F := F_spec_DrawCountWeight) rfl rfl]
  simp [F_spec_DrawCountWeight, o, h, tk2]
end
section
attribute [-simp] DV.cells
attribute [local simp] sliceD cells_st cells_sl cells_i cells_y cells_b cells_s cells_w
theorem hdf_fin : ∀ (m : _root_.Fin 6) (s : _root_.Fin 32), s.val < 2 ^ m.val → s.val ≠ 2 ^ m.val - 1 → hdN m.val s.val < m.val := by decide +kernel
theorem hd_full {m s : Nat} (hm : m ≤ 5) (hs : s < 2 ^ m) (hne : s ≠ 2 ^ m - 1) : hdN m s < m := by
  have : (2 : Nat) ^ m ≤ 2 ^ 5 := Nat.pow_le_pow_right (by omega) hm
  exact hdf_fin ⟨m, by omega⟩ ⟨s, by omega⟩ hs hne
set_option maxHeartbeats 4000000 in
theorem law_FnCountOk (x : List Nat) (_ : x.length ≤ Go.maxLen) (hb : ∀ y ∈ x, y < 256) : call lf n_laws_FnCountOk [bys x] = some (.b true, []) := by
  show call lf n_laws_FnCountOk [.sl 0 (x.map .y)] = _
  rw [call_k lf n_laws_FnCountOk _ (F := F_laws_FnCountOk) rfl rfl]
  by_cases hl : 1048576 < (x.length : Int)
  · simp (config := { maxSteps := 2000000 }) [F_laws_FnCountOk, hl]
  · obtain ⟨us, k, u1, k1, d⟩ := c_DrawCountOk hb (by omega)
    have D1 := c_impl_CountOk us k (by omega)
    have D2 := c_spec_CountOk us k (by omega)
    have C1 := c_spec_TestsOk us (by omega)
    have lb1 : us.length ≤ bound := by unfold bound; omega
    have tk1 := tk_e2 us
    cases h : tsOk us with
    | false =>
      have e : ctOk us k = false := by unfold ctOk; rw [h]; rfl
      rw [h] at C1
      rw [e] at D1 D2
      simp (config := { maxSteps := 2000000 }) [F_laws_FnCountOk, hl, d, D1, D2, C1, lb1, tk1, c_alive]
    | true =>
      rw [h] at C1
      have ht := tsOk_iff.1 h
      have A := c_impl_CountOk us 1 (by omega)
      have B := c_impl_CountOk us us.length (by omega)
      have C := c_impl_CountOk us (us.length + 1) (by omega)
      have ea : ctOk us 1 = true := ctOk_iff.2 ⟨h, by omega, by omega⟩
      have eb : ctOk us us.length = true := ctOk_iff.2 ⟨h, by omega, by omega⟩
      have ec : ctOk us (us.length + 1) = false := by
        cases e : ctOk us (us.length + 1) with
        | false => rfl
        | true => have := ctOk_iff.1 e; omega
      have w1 : wr ((us.length : Int) + 1) = us.length + 1 := wr_id (by omega) (by omega)
      rw [ea] at A
      rw [eb] at B
      rw [ec] at C
      generalize ctOk us k = b at *
      cases b <;> simp (config := { maxSteps := 2000000 }) [F_laws_FnCountOk, hl, d, D1, D2, C1, A, B, C, w1, lb1, tk1, c_alive]
set_option maxHeartbeats 4000000 in
theorem law_FnCountWeight (x : List Nat) (_ : x.length ≤ Go.maxLen) (hb : ∀ y ∈ x, y < 256) : call lf n_laws_FnCountWeight [bys x] = some (.b true, []) := by
  show call lf n_laws_FnCountWeight [.sl 0 (x.map .y)] = _
  rw [call_k lf n_laws_FnCountWeight _ (F := F_laws_FnCountWeight) rfl rfl]
  by_cases hl : 1048576 < (x.length : Int)
  · simp (config := { maxSteps := 2000000 }) [F_laws_FnCountWeight, hl]
  · obtain ⟨us, k, u1, k1, d⟩ := c_DrawCountWeight hb (by omega)
    have D1 := c_impl_CountWeight us k (by omega)
    have D2 := c_spec_CountWeight us k (by omega)
    have lb1 : us.length ≤ bound := by unfold bound; omega
    have tk1 := tk_e2 us
    cases h : ctOk us k with
    | false =>
      have e : cwL us k = -1 := by unfold cwL; rw [h]; rfl
      rw [e] at D1 D2
      simp (config := { maxSteps := 2000000 }) [F_laws_FnCountWeight, hl, d, D1, D2, lb1, tk1, c_alive]
    | true =>
      obtain ⟨h1, k2, k3⟩ := ctOk_iff.1 h
      obtain ⟨n, rfl⟩ := Int.eq_ofNat_of_zero_le (show 0 ≤ k by omega)
      have ht := tsOk_iff.1 h1
      obtain ⟨p0, p1, p2⟩ := pow5 (m := us.length) (by omega) (by omega)
      rw [Int.toNat_natCast] at p0 p1 p2
      have O := c_impl_OtherTests us (by omega)
      have eo : others us = us.map other := by unfold others; rw [h1]; rfl
      rw [eo] at O
      have ho : tsOk (us.map other) = true := by
        unfold tsOk
        rw [List.length_map, others_all ht.2]
        simp [nOk]; omega
      have w1 : wr ((us.length : Int) - (n : Int)) = us.length - n := wr_id (by omega) (by omega)
      have w2 : wr ((us.length : Int) - n + 1) = ((us.length + 1 - n : Nat) : Int) := by rw [wr_id (by omega) (by omega)]; omega
      have W := c_impl_CountWeight (us.map other) ((us.length + 1 - n : Nat) : Int) (by rw [List.length_map]; omega)
      have eW : cwL (us.map other) ((us.length + 1 - n : Nat) : Int) = cwN (us.map other) (us.length + 1 - n) := by
        unfold cwL
        rw [ctOk_iff.2 ⟨ho, by omega, by rw [List.length_map]; omega⟩, if_pos rfl, Int.toNat_natCast]
      have e0 : cwL us (n : Int) = cwN us n := by unfold cwL; rw [h, if_pos rfl, Int.toNat_natCast]
      have A := c_impl_CountWeight us (us.length : Nat) (by omega)
      have e1 : cwL us (us.length : Nat) = cwN us us.length := by
        unfold cwL
        rw [ctOk_iff.2 ⟨h1, by omega, by omega⟩, if_pos rfl, Int.toNat_natCast]
      have S := cw_other (us := us) (by omega) (by omega) (k := n) (by omega)
      have P := c_power (us.length : Nat) (by omega) (by omega)
      rw [Int.toNat_natCast] at P
      have sh : shlI 1 (us.length : Nat) = ((2 ^ us.length : Nat) : Int) := by rw [shl1 (by omega) (by omega), Int.toNat_natCast]; simp
      have w3 : wr (((2 ^ us.length : Nat) : Int) - 1) = ((2 ^ us.length - 1 : Nat) : Int) := by rw [wr_id (by omega) (by omega)]; omega
      have V := c_impl_WeightOf us ((2 ^ us.length - 1 : Nat) : Int) (by omega)
      have eV : wtOf us ((2 ^ us.length - 1 : Nat) : Int) = cwN us us.length := by
        have so : stOk us.length ((2 ^ us.length - 1 : Nat) : Int) = true := by
          unfold stOk
          rw [Int.toNat_natCast, ← p2]
          simp [nOk]; omega
        unfold wtOf
        rw [h1, so]
        simp only [Bool.and_self, if_true]
        unfold cwN
        rw [sumTo_one (j := 2 ^ us.length - 1) (by omega) (fun s hs hne => by
          have := hd_full (m := us.length) (s := s) (by omega) hs hne
          rw [if_neg (by omega)])]
        rw [if_pos (by rw [full_hd (by omega)]; exact Nat.le_refl _)]
      have c0 : 0 ≤ cwN us n := (cwT_bd h1 n (2 ^ us.length) (by omega)).1
      have c1 := (cwT_bd h1 n (2 ^ us.length) (by omega)).2
      have pb := p6 (n := us.length) (by omega)
      have cx : cwT us n (2 ^ us.length) = cwN us n := rfl
      rw [cx] at c1
      have n0 : ¬ cwN us n < 0 := by omega
      rw [e0] at D1 D2
      rw [eW] at W
      rw [e1] at A
      rw [eV] at V
      have ws : wr (cwN us n + cwN (us.map other) (us.length + 1 - n)) = 6 ^ us.length := by rw [S]; exact wr_id (by omega) (by omega)
      have nn : ¬ ((us.length : Nat) : Int) < 0 := by omega
      have tk3 : List.take us.length ((us.map other).map e2) = (us.map other).map e2 := List.take_of_length_le (by simp)
      have lo : ((us.map other).map e2).length = us.length := by simp
      have lE := lend_e2 (us.map other)
      have aE := fun o => adopt_e2 o (us.map other)
      have nE := new_e2 (us.map other)
      generalize cwN us n = X at *
      generalize cwN (us.map other) (us.length + 1 - n) = Y at *
      generalize (us.length + 1 - n : Nat) = j at *
      generalize cwN us us.length = Z at *
      generalize (2 ^ us.length - 1 : Nat) = a at *
      generalize (2 ^ us.length : Nat) = b at *
      generalize (6 : Int) ^ us.length = s at *
      generalize (us.map other).map e2 = M at *
      simp (config := { maxSteps := 2000000 }) [F_laws_FnCountWeight, hl, d, D1, D2, n0, O, w1, w2, w3, W, P, ws, A, sh, nn, V, lb1, tk1, tk3, lo, lE, aE, nE, c_alive, -Int.natCast_add]
end
section
attribute [-simp] DV.cells
attribute [local simp] sliceD cells_st cells_sl cells_i cells_y cells_b cells_s cells_w
def stSm (us : List T) (s c b : Int) (k : Nat) : LS := ⟨[(3, .own 7697 us.length 0 us.length), (5, .i s), (6, .i c), (7, .i b), (8, .i k)], [(7697, us.map e2)]⟩
theorem cw_zero {us : List T} (h : tsOk us = true) : cwN us 0 = 6 ^ us.length := by
  have ht := tsOk_iff.1 h
  unfold cwN
  have : (fun s => if 0 ≤ hdN us.length s then wt us (s : Nat) else 0) = fun s : Nat => wt us (s : Nat) := by funext s; simp
  rw [this]
  exact wt_sum us
set_option maxHeartbeats 8000000 in
theorem law_FnCountSum (x : List Nat) (_ : x.length ≤ Go.maxLen) (hb : ∀ y ∈ x, y < 256) : call lf n_laws_FnCountSum [bys x] = some (.b true, []) := by
  show call lf n_laws_FnCountSum [.sl 0 (x.map .y)] = _
  rw [call_k lf n_laws_FnCountSum _ (F := F_laws_FnCountSum) rfl rfl]
  by_cases hl : 1048576 < (x.length : Int)
  · simp (config := { maxSteps := 2000000 }) [F_laws_FnCountSum, hl]
  · obtain ⟨us, k, u1, k1, d⟩ := c_DrawCountWeight hb (by omega)
    have C1 := c_spec_TestsOk us (by omega)
    have C2 := c_impl_TestsOk us (by omega)
    have lb1 : us.length ≤ bound := by unfold bound; omega
    have tk1 := tk_e2 us
    cases h : tsOk us with
    | false =>
      rw [h] at C1 C2
      simp (config := { maxSteps := 2000000 }) [F_laws_FnCountSum, hl, d, C1, C2, lb1, tk1, c_alive]
    | true =>
      rw [h] at C1
      have ht := tsOk_iff.1 h
      obtain ⟨p0, p1, p2⟩ := pow5 (m := us.length) (by omega) (by omega)
      rw [Int.toNat_natCast] at p0 p1 p2
      have P := c_power (us.length : Nat) (by omega) (by omega)
      have P' := c_power ((us.length : Int) - 1) (by omega) (by omega)
      rw [Int.toNat_natCast] at P
      rw [show ((us.length : Int) - 1).toNat = us.length - 1 by omega] at P'
      have cwb : ∀ i, 0 ≤ cwN us i ∧ cwN us i ≤ 248832 := fun i => cwT_bd h i (2 ^ us.length) (by omega)
      have sb : ∀ i, i ≤ us.length → 0 ≤ sumTo (fun j => cwN us (j + 1)) i ∧ sumTo (fun j => cwN us (j + 1)) i ≤ 248832 * i := fun i _ => sumTo_nonneg (B := 248832) (by omega) i fun j _ => cwb (j + 1)
      have cb : ∀ i, i ≤ us.length → 0 ≤ sumTo (fun j => pA us j) i ∧ sumTo (fun j => pA us j) i ≤ 5 * i := fun i hi => sumTo_nonneg (B := 5) (by omega) i fun j hj => by have := pA_bd ht.2 (k := j) (by omega); omega
      have L := loop_count (lf := lf) (L := F_laws_FnCountSum_L0) us.length (fun i => stSm us (sumTo (fun j => cwN us (j + 1)) i) (sumTo (fun j => pA us j) i) (cwN us i) (i + 1)) (x := .exit 0) (R := stSm us (sumTo (fun j => cwN us (j + 1)) us.length) (sumTo (fun j => pA us j) us.length) (cwN us us.length) (us.length + 1)) (fun i hi => by
        have W := c_impl_CountWeight us ((i + 1 : Nat) : Int) (by omega)
        have eW : cwL us ((i + 1 : Nat) : Int) = cwN us (i + 1) := by
          unfold cwL
          rw [ctOk_iff.2 ⟨h, by omega, by omega⟩, if_pos rfl, Int.toNat_natCast]
        rw [eW] at W
        obtain ⟨c, q, a1, a2, ec, eq, cb', qb⟩ := us_cell ht.2 hi
        have e1 : sumTo (fun j => cwN us (j + 1)) (i + 1) = sumTo (fun j => cwN us (j + 1)) i + cwN us (i + 1) := rfl
        have e2' : sumTo (fun j => pA us j) (i + 1) = sumTo (fun j => pA us j) i + q := by rw [eq]; rfl
        have b1 := sb i (by omega)
        have b2 := cb i (by omega)
        have b3 := cwb (i + 1)
        have mo := cw_mono ht.2 (by omega) i
        rw [e1, e2']
        have hi' : ((i + 1 : Nat) : Int) ≤ us.length := by omega
        have w1 : wr (((i + 1 : Nat) : Int) + 1) = ((i + 1 + 1 : Nat) : Int) := by rw [wr_id (by omega) (by omega)]; omega
        have w0 : wr (((i + 1 : Nat) : Int) - 1) = (i : Nat) := by rw [wr_id (by omega) (by omega)]; omega
        generalize sumTo (fun j => cwN us (j + 1)) i = s at *
        generalize sumTo (fun j => pA us j) i = z at *
        generalize cwN us (i + 1) = v at *
        generalize cwN us i = b at *
        have w2 : wr (s + v) = s + v := wr_id (by omega) (by omega)
        have w3 : wr (z + q) = z + q := wr_id (by omega) (by omega)
        have n1 : ¬ v < 0 := by omega
        have n2 : ¬ b < v := by omega
        have hL : (us.map e2).length = us.length := by simp
        have hi2 : (i : Int) < us.length := by omega
        unfold stSm
        generalize i + 1 = j at *
        have lE := lend_e2 us
        generalize us.map e2 = U at *
        simp [F_laws_FnCountSum_L0, hi, hi', hi2, hL, tk1, lE, W, n1, n2, w0, w1, w2, w3, a1, a2, -Int.natCast_add]) (by
        have n3 : ¬ ((us.length + 1 : Nat) : Int) ≤ us.length := by omega
        unfold stSm
        generalize us.length + 1 = j at *
        simp [F_laws_FnCountSum_L0, n3]) (by simp)
      have z1 : sumTo (fun j => cwN us (j + 1)) 0 = 0 := rfl
      have z2 : sumTo (fun j => pA us j) 0 = 0 := rfl
      rw [z1, z2, cw_zero h] at L
      unfold stSm at L
      rw [show ((0 + 1 : Nat) : Int) = 1 from rfl] at L
      change ex lf F_laws_FnCountSum_W0 _ = _ at L
      have S := cw_sum ht.2
      have s1 := sb us.length (Nat.le_refl _)
      have s2 := cb us.length (Nat.le_refl _)
      have pw : (6 : Int) ^ us.length = 6 ^ (us.length - 1) * 6 := by rw [← Int.pow_succ]; congr 1; omega
      have px := p6 (n := us.length - 1) (by omega)
      have w0 : wr ((us.length : Int) - 1) = (us.length : Int) - 1 := wr_id (by omega) (by omega)
      have fin : wr (sumTo (fun j => pA us j) us.length * 6 ^ (us.length - 1)) = sumTo (fun j => cwN us (j + 1)) us.length := by
        have e : sumTo (fun j => pA us j) us.length * 6 ^ (us.length - 1) = sumTo (fun j => cwN us (j + 1)) us.length := by
          rw [pw] at S
          generalize sumTo (fun j => pA us j) us.length = z at *
          generalize sumTo (fun k => cwN us (k + 1)) us.length = s at *
          generalize (6 : Int) ^ (us.length - 1) = y at *
          grind
        rw [e]
        exact wr_id (by omega) (by omega)
      generalize sumTo (fun j => pA us j) us.length = z at *
      generalize sumTo (fun k => cwN us (k + 1)) us.length = s at *
      generalize (6 : Int) ^ (us.length - 1) = y at *
      generalize (6 : Int) ^ us.length = y' at *
      generalize cwN us us.length = b at *
      have hL : (us.map e2).length = us.length := by simp
      simp (config := { maxSteps := 2000000 }) [F_laws_FnCountSum, hl, d, C1, P, P', L, w0, fin, hL, lb1, tk1, c_alive, -Int.natCast_add]
end
end Zz
