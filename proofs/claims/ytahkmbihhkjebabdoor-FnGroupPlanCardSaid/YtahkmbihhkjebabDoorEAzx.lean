/- What the functions answer, as equations: EA. No conditions. -/
import Derived.Test.YtahkmbihhkjebabDoorIrzx
import Derived.Test.YtahkmbihhkjebabDoorE0
set_option linter.unusedSectionVars false
set_option linter.unusedVariables false
set_option linter.unusedSimpArgs false
namespace Zz
open Go.Lg Md
set_option linter.unusedSimpArgs false
set_option linter.unusedVariables false
attribute [local simp] tm_mv tm_newnil tm_pick tm_bin tm_eqb tm_eqs tm_un tm_len tm_lens tm_chk tm_fld tm_fldv tm_idxa tm_idx tm_load tm_store tm_slice tm_slices tm_make tm_alloc tm_box tm_build tm_app tm_conv tm_ext tm_call tm_calld tm_mkfn tm_mm tm_idxp tm_eqn tm_callg tm_callm tm_bslice0 tm_bslice1 tm_bslice2 tm_bslice nt_nil nt_cons nc_nil' nc_cons sa_mkfn cv_adr cv_i cv_y cv_b cv_w sa_calld nm_def nh_nil nh_cons nxM_some nxM_none sc_st sd_i sd_y sd_b sd_s sd_w sd_q sc_i sc_y sc_b sc_s sc_w sc_q sa_bslice sa_app nc_own nc_nil sa_call sa_alloc sa_build sa_callm rm_nil rm_one rm_gen bq_mul bq_eql ia_mv ia_newnil ia_pick ia_bin ia_eqb ia_eqs ia_un ia_len ia_lens ia_chk ia_fld ia_fldv ia_idxa ia_idx ia_load ia_store ia_slice ia_slices ia_make ia_alloc ia_box ia_build ia_bslice ia_app ia_b2i ia_i2b ia_i2i ia_same ia_b2s ia_s2b ia_ext ia_mm ia_idxp ia_calld ia_mkfn ia_i2r ia_r2s ia_call pt_nil pt_cons mi_nil mi_cons md_bslice md_mv md_newnil md_pick md_bin md_eqb md_un md_len md_lens md_fld md_fldv md_idxa md_idx md_load md_store md_slice md_slices md_make md_alloc md_box md_build md_app md_conv md_ext md_call md_calld md_callg md_mkfn md_mm md_idxp md_eqn md_eqs md_chk tg_bslice tg_mv tg_newnil tg_pick tg_bin tg_eqb tg_un tg_len tg_lens tg_fld tg_fldv tg_idxa tg_idx tg_load tg_store tg_slice tg_slices tg_make tg_alloc tg_box tg_build tg_app tg_conv tg_ext tg_call tg_calld tg_callg tg_mkfn tg_mm tg_idxp tg_eqn tg_eqs tg_chk rp_eq ro_eq ifP_t ifP_f np_def ng1_nil ng2_nil ng_gate ng_gen tgA_t tgA_0 tgA_1 tgA_2 aC_nil aC_c aC_t nxP_some nxP_none rq_nil rq_gen rq_gate nxR_some nxR_none ru_nil ru_gen ru_gate pl_none pl_some gt_nil gt_t gt_c di_some di_none an_nil an_cons nxG_some nxG_none rg_nil rg_gen rg_gate oldO_some oa_nil oa_i oa_y oa_b oa_s oa_st oa_sl oa_own oa_oad oa_nl al_nil al_cons al_i al_y al_b al_s al_st al_sl nxF_some nxF_none rf_nil rf_gen rf_gate hk_newnil hk_make hk_alloc hk_box hk_build hk_bslice hk_call hk_store hk_app hk_appn em_cel mm_cel ok_cel ov_cel so_cel il_cel oi_cel oj_cel ol_cel nm_cel hk_appc ef_bslice5 ef_app_cel ks_shut shu_own shc_none shc_cel cl_nil cl_cons ai_nil ai_cons il_i il_y il_b il_s il_st il_sl il_own il_adr il_oad il_ref il_fr il_tup il_nil il_np il_und il_dead ol_adr ol_b ol_dead ol_e ol_fn ol_fr ol_i ol_nil ol_np ol_oad ol_own ol_q ol_r ol_ref ol_s ol_sl ol_st ol_tup ol_und ol_w ol_y oj_e oj_i oj_y oj_b oj_s oj_st oj_sl oj_own oj_adr oj_oad oj_ref oj_fr oj_tup oj_nil oj_np oj_und oj_dead oj_w oj_q oj_r oj_fn oi_e oi_i oi_y oi_b oi_s oi_st oi_sl oi_own oi_adr oi_oad oi_ref oi_fr oi_tup oi_nil oi_np oi_und oi_dead as_nil as_cons ao_nil ao_cons av_i av_y av_b av_s av_st av_sl av_own av_adr av_oad av_ref av_fr av_tup av_nil av_np av_und av_dead pro_cons ghK_some ks_promote ks_freeze frz_own ks_rename ren_own dropO adoptP newP wholeP cutP allOldL ex_skip ex_ret ex_exit ks_region ks_seq ks_cond ks_block seqK_n seqK_e seqK_r regK_some condK_t condK_f blkK_n blkK_r blkK_e endK_n endK_r rr_false rr_true rd_free mo_nil mo_cons drK_some drK_none nxW_some nxW_none rw_nil rw_gen rw_gate ak_newnil ak_make ak_alloc ak_box ak_build ak_bslice ak_call ak_store ak_app iw_mm iw_eqn iw_idxp ef_callg cgK_some gv_e gv_own gv_i gv_sl gv_st gv_b gv_nil gvK_some gvO_some iw_callg ia_callg ak_callg hk_callg is_mv is_newnil is_pick is_bin is_eqb is_eqs is_un is_len is_lens is_chk is_fld is_fldv is_idxa is_idx is_load is_slice is_slices is_make is_alloc is_box is_build is_bslice is_app is_conv is_ext is_call is_calld is_callg is_mkfn is_mm is_idxp is_eqn is_store rt_nil rt_gen rt_gate nxT_some nxT_none ef_eqn_nil ef_eqn_sl ef_eqn_own ia_eqn ef_mmx ef_mmn ef_idxp nxD_some nxD_none ov_i ov_y ov_b ov_s ov_st ov_sl ov_own ov_oad ov_adr ov_nil ov_np ov_und ov_dead ov_tup oldN_some oldN_nil oldN_none so_none so_i so_y so_b so_s so_st so_sl so_adr so_nil so_np so_und so_dead anyM_nil anyM_t anyM_c so_own so_oad rd_nil rd_gen rd_mv rd_gate iw_mv iw_newnil iw_pick iw_bin iw_eqb iw_eqs iw_un iw_len iw_lens iw_chk iw_fld iw_fldv iw_idxa iw_idx iw_load iw_store iw_slice iw_slices iw_make iw_alloc iw_box iw_build iw_bslice iw_app iw_b2i iw_i2b iw_i2i iw_same iw_b2s iw_s2b iw_ext iw_call nm_i nm_y nm_b nm_s nm_st nm_sl nm_own nm_oad nm_adr nm_nil nm_np nm_und nm_dead nm_tup rl_nil rl_gate rl_mv rl_gen opv_t opv_c nx_some nx_none gate_tt gate_tf gate_ft gate_ff gate_u fr_ap em_nil em_i em_y em_b em_s em_st em_sl em_own em_adr em_oad em_ref em_nl em_np em_und em_dead em_tup0 em_tup_i em_tup_b em_tup_s em_tup_sl em_tup_st em_tup_np em_tup_own em_tup_oad mm_i mm_y mm_b mm_s mm_st mm_sl mm_own mm_oad mm_adr mm_nil mm_np mm_und mm_dead ef_mv ef_newnil ef_pickt ef_pickf ef_bin ef_eqb ef_eqs ef_un ef_lens ef_len_sl ef_len_own ef_len_nil ef_chk_adr ef_chk_oad ef_fld_adr ef_fld_oad ef_fldv idxR_some ef_idxa_sl ef_idxa_own ef_idx ef_load_adr_st ef_load_adr_i ef_load_adr_y ef_load_adr_b ef_load_adr_s ef_load_adr_sl atN_nil atN_zero atN_succ ef_load_oad ef_store ef_slice ef_slices ef_make ef_alloc ef_box ef_build ef_bslice ef_app_own ef_app_nil ef_b2i ef_i2b ef_i2i ef_same ef_ext ret1 ret2_some calL_some ef_call retC_i retC_y retC_b retC_s retC_st retC_sl retC_np retC_fr retC_ref retC_tup rk_nil rk_i rk_y rk_b rk_s rk_st rk_sl rk_own rk_oad rk_nl ok_nil ok_i ok_y ok_b ok_s ok_st ok_sl ok_own ok_oad ok_nl lo_nil lo_i lo_y lo_b lo_s lo_st lo_sl lo_own lo_oad lo_nl pr_nil pr_i pr_y pr_b pr_s pr_st pr_sl pr_own pr_nl pr_oad nr_i nr_y nr_b nr_s nr_st nr_sl nr_fr nr_np nr_tup ng_i ng_b ng_s ng_fr ng_nil resV effP_eff binD bi_add bi_sub bi_mul bi_quo bi_rem bi_eql bi_neq bi_lss bi_leq bi_gtr bi_geq bi_shl bi_shr bi_and bi_or bi_xor bi_andNot binY binS unD look put putD LS.get LS.drop killE sweep lookO putO dropO enter leave giveBackL giveBack outs lendArgs lendArg newOuts takeIn takeInL lendL DV.lend adoptL DV.adopt elems apartKs part DV.cells unpart settle settleL over mkId szId fillP fillE tk_e2 tk_i tk_y lt_e2 lt_i lt_y lend_rep al_e2 al_is al_ys al_rep al_app lend_app adopt_app new_app lend_e2 lend_i lend_y adopt_e2 adopt_i adopt_y new_e2 new_i allNewL DV.allNew bounds sliceD sliceS em_w em_q em_r em_fn em_tup_w em_tup_q em_tup_r mm_w mm_q mm_r mm_fn ef_load_adr_w ef_load_adr_q ef_load_adr_r retC_w retC_q retC_r rk_w rk_q rk_r rk_fn ok_w ok_q ok_r ok_fn lo_w lo_q lo_r lo_fn pr_w pr_q pr_r pr_fn nr_w nr_q nr_r ng_w ng_q ng_r oa_w oa_q oa_r oa_fn al_w al_q al_r al_fn ov_w ov_q ov_r ov_fn so_w so_q so_r so_fn il_w il_q il_r il_fn oi_w oi_q oi_r oi_fn av_w av_q av_r av_fn nm_w nm_q nm_r nm_fn ef_i2r ef_r2s ef_mkfn ef_mkbd ef_idxp_adr ef_idxp_q ef_calld_nil ef_calld_adr ef_calld_bd DV.capB capsOk DV.cell List.all_cons List.all_nil rk_own_t lo_own_t lk_f lk_t pr_own_t mutB ak_calld hk_calld iw_calld iw_mkfn iw_i2r iw_r2s bw_and bw_or bw_xor bw_andNot bw_eql bw_neq sw_shl sw_shr sq_shl gEnv_nil rk_adr ok_adr lo_adr pr_adr oa_adr capL capArg DV.cap ak_mkfn hk_mkfn hk_mkbd ef_callm gf_ap ga_nil ga_cons tgv_own gk_e gk_giv gk_i gk_y gk_b gk_s gk_w gk_q gk_r gk_fn gk_st gk_sl gk_own gk_oad gk_adr gk_nl gk_np rk_giv ok_giv lo_giv pr_giv oa_giv iw_callm hk_callm ak_callm is_callm ia_callm tg_callm md_callm ef_i2q ef_q2i ef_q2q iw_i2q iw_q2i iw_q2q ia_i2q ia_q2i ia_q2q bq_and bq_add bq_shr sq_shr tgv_nil gk_ref rk_ref ok_ref lo_ref pr_ref oa_ref retC_fn nr_fn ef_load_adr_fn ks_close cls_oad
attribute [local congr] nxM_congr ifP_congr nxP_congr nxR_congr nxT_congr nxG_congr nxF_congr ghK_congr gate_congr nx_congr nxD_congr runL_congr runD_congr eff_congr calL_congr ret2_congr seqK_congr regK_congr condK_congr endK_congr drK_congr nxW_congr
attribute [local simp ↓] nxM_some rm_nil rm_one rm_gen nxT_some rt_nil rt_gen rt_gate nxP_some rq_nil rq_gen rq_gate nxR_some ru_nil ru_gen ru_gate nxG_some rg_nil rg_gen rg_gate nxF_some rf_nil rf_gen rf_gate ks_promote ks_freeze frz_own ks_rename ghK_some gate_tt gate_tf gate_ft gate_ff gate_u nx_some nxD_some rl_nil rl_mv rl_gen rl_gate rd_nil rd_mv rd_gen rd_gate rd_free rr_false rr_true drK_some drK_none nxW_some rw_nil rw_gen rw_gate ks_region ks_seq ks_cond ks_block seqK_n seqK_e seqK_r regK_some condK_t condK_f blkK_n blkK_r endK_n endK_r calL_some ret2_some opv_t opv_c
section
theorem c_impl_isWithin (a b c : Int) : call lf n_impl_isWithin [.i a, .i b, .i c] = some (.b (decide (b ≤ a ∧ a ≤ c)), []) := by
 rw [call_k lf n_impl_isWithin _ (F := F_impl_isWithin) rfl rfl]
 by_cases h : b ≤ a <;> simp [F_impl_isWithin, h]
theorem c_spec_l1In (a b c : Int) : call lf n_spec_l1In [.i a, .i b, .i c] = some (.b (decide (b ≤ a ∧ a ≤ c)), []) := by
 rw [call_k lf n_spec_l1In _ (F := F_spec_l1In) rfl rfl]
 by_cases h : b ≤ a <;> simp [F_spec_l1In, h]
theorem c_impl_manyOk (a : Int) : call lf n_impl_manyOk [.i a] = some (.b (nOk a), []) := by
 rw [call_k lf n_impl_manyOk _ (F := F_impl_manyOk) rfl rfl]
 simp [F_impl_manyOk, c_impl_isWithin, nOk]

theorem l_impl_TestsOk (n : Int) (hb : n < 1099511627776) (es : List DV) (rest : List T) : ∀ k : Int, 0 ≤ k → k + (rest.map e2).length = n → es.drop k.toNat = rest.map e2 →
  ex lf F_impl_TestsOk_W0 ⟨[(9, .sl 0 es), (10, .i n), (11, .i k)], []⟩ =
  if rest.all tOk then some (.exit 0, ⟨[(9, .sl 0 es), (10, .i n), (11, .i n)], []⟩) else some (.ret, ⟨[(2, .b false)], []⟩) := by
 induction rest with
 | nil =>
  intro k h0 hn hd
  rw [w_impl_TestsOk_0]
  have hk : k = n := by simpa using hn
  simp [F_impl_TestsOk_L0, hk]
 | cons t rest ih =>
  intro k h0 hn hd
  obtain ⟨q1, q2, q3, q4, q5, q6⟩ := stp h0 hn hb hd
  have ih := ih (k + 1) q4 q5 q6
  simp only [e2] at q2
  rw [w_impl_TestsOk_0]
  have xt := tOk_def t
  cases x1 : decide (1 ≤ t.1 ∧ t.1 ≤ 9) <;> cases x2 : decide (1 ≤ t.2 ∧ t.2 ≤ 5) <;> rw [x1, x2] at xt <;> simp [F_impl_TestsOk_L0, q1, q2, q3, c_impl_isWithin, ih, xt, x1, x2, -List.all_eq_true]
theorem c_impl_TestsOk (ts : List T) (hb : (ts.length : Int) < 1099511627776) : call lf n_impl_TestsOk [.sl 0 (ts.map e2)] = some (.b (tsOk ts), []) := by
 rw [call_k lf n_impl_TestsOk _ (F := F_impl_TestsOk) rfl rfl]
 have L := l_impl_TestsOk ts.length hb (ts.map e2) ts 0 (by omega) (by simp) (by simp)
 cases h1 : nOk ts.length <;> cases h2 : ts.all tOk <;> simp [F_impl_TestsOk, c_impl_manyOk, L, h1, h2, tsOk]

theorem l_spec_TestsOk (n : Int) (hb : n < 1099511627776) (es : List DV) (hE : (es.length : Int) = n) (rest : List T) : ∀ k : Int, 0 ≤ k → k + (rest.map e2).length = n → es.drop k.toNat = rest.map e2 →
  ex lf F_spec_TestsOk_W0 ⟨[(0, .sl 0 es), (3, .i k)], []⟩ =
  if rest.all tOk then some (.exit 0, ⟨[(0, .sl 0 es), (3, .i n)], []⟩) else some (.ret, ⟨[(2, .b false)], []⟩) := by
 induction rest with
 | nil =>
  intro k h0 hn hd
  rw [w_spec_TestsOk_0]
  have hk : k = n := by simpa using hn
  simp [F_spec_TestsOk_L0, hk, hE]
 | cons t rest ih =>
  intro k h0 hn hd
  obtain ⟨q1, q2, q3, q4, q5, q6⟩ := stp h0 hn hb hd
  have ih := ih (k + 1) q4 q5 q6
  simp only [e2] at q2
  rw [w_spec_TestsOk_0]
  have xt := tOk_def t
  cases x1 : decide (1 ≤ t.1 ∧ t.1 ≤ 9) <;> cases x2 : decide (1 ≤ t.2 ∧ t.2 ≤ 5) <;> rw [x1, x2] at xt <;> simp [F_spec_TestsOk_L0, q1, q2, q3, hE, c_spec_l1In, ih, xt, x1, x2, -List.all_eq_true]
theorem c_spec_TestsOk (ts : List T) (hb : (ts.length : Int) < 1099511627776) : call lf n_spec_TestsOk [.sl 0 (ts.map e2)] = some (.b (tsOk ts), []) := by
 rw [call_k lf n_spec_TestsOk _ (F := F_spec_TestsOk) rfl rfl]
 have L := l_spec_TestsOk ts.length hb (ts.map e2) (by simp) ts 0 (by omega) (by simp) (by simp)
 cases h2 : ts.all tOk <;> simp [F_spec_TestsOk, c_spec_l1In, L, h2, tsOk, nOk]

theorem c_impl_statesOf (a : Int) (h0 : 0 ≤ a) (h5 : a ≤ 40) : call lf n_impl_statesOf [.i a] = some (.i (2 ^ a.toNat), []) := by
 rw [call_k lf n_impl_statesOf _ (F := F_impl_statesOf) rfl rfl]
 have h1 : ¬ a < 0 := by omega
 simp [F_impl_statesOf, h1, shl1 h0 h5]
theorem nOk_iff {a : Int} : nOk a = true ↔ 1 ≤ a ∧ a ≤ 5 := by simp [nOk]
theorem c_impl_StateOk (a b : Int) : call lf n_impl_StateOk [.i a, .i b] = some (.b (stOk a b), []) := by
 rw [call_k lf n_impl_StateOk _ (F := F_impl_StateOk) rfl rfl]
 cases h : nOk a with
 | true =>
  have h' := nOk_iff.1 h
  have p := pow2_le (k := a) (by omega) (by omega)
  have w := wr_id (n := 2 ^ a.toNat - 1) (by omega) (by omega)
  have e : decide (0 ≤ b ∧ b ≤ 2 ^ a.toNat - 1) = decide (0 ≤ b ∧ b < 2 ^ a.toNat) := decide_eq_decide.2 (by omega)
  simp [F_impl_StateOk, c_impl_manyOk, c_impl_isWithin, h, stOk, c_impl_statesOf a (by omega) (by omega), w, e]
 | false => simp [F_impl_StateOk, c_impl_manyOk, c_impl_isWithin, h, stOk]
theorem c_impl_outcomeIn (s k : Int) (h0 : 0 ≤ k) (h5 : k ≤ 40) : call lf n_impl_outcomeIn [.i s, .i k] = some (.i (s / 2 ^ k.toNat % 2), []) := by
 rw [call_k lf n_impl_outcomeIn _ (F := F_impl_outcomeIn) rfl rfl]
 have h1 : ¬ k < 0 := by omega
 simp [F_impl_outcomeIn, h1, shr1 (a := s) h0 (show k ≤ 60 by omega), bit_and]

theorem l_impl_WeightOf (s : Int) (n : Int) (hb : n ≤ 5) (es : List DV) (rest : List T) (hr : rest.all tOk = true) : ∀ (k a : Int), 0 ≤ k → k + (rest.map e2).length = n → es.drop k.toNat = rest.map e2 → 1 ≤ a → a ≤ 6 ^ k.toNat →
  ex lf F_impl_WeightOf_W0 ⟨[(1, .i s), (5, .i a), (18, .sl 0 es), (19, .i n), (20, .i k)], []⟩ = some (.exit 0, ⟨[(1, .i s), (5, .i (a * wt rest (s / 2 ^ k.toNat))), (18, .sl 0 es), (19, .i n), (20, .i n)], []⟩) := by
 induction rest with
 | nil =>
  intro k a h0 hn hd _ _
  rw [w_impl_WeightOf_0]
  have hk : k = n := by simpa using hn
  simp [F_impl_WeightOf_L0, hk, wt]
 | cons t rest ih =>
  intro k a h0 hn hd ha1 ha2
  simp only [List.all_cons, Bool.and_eq_true] at hr
  obtain ⟨q1, q2, q3, q4, q5, q6⟩ := stp h0 hn (by omega) hd
  have tk := tOk_iff.1 hr.1
  simp only [e2] at q2
  have oc := c_impl_outcomeIn s k h0 (by omega)
  have w6 : wr (6 - t.2) = 6 - t.2 := wr_id (by omega) (by omega)
  rw [w_impl_WeightOf_0]
  by_cases hx : s / 2 ^ k.toNat % 2 = 1
  ·obtain ⟨m1, m2, m3⟩ := mulw (c := t.2) ha1 ha2 (by omega) (by omega) h0 (by omega)
   have ih := ih hr.2 (k + 1) (a * t.2) q4 q5 q6 m2 m3
   rw [div_pow_succ s h0] at ih
   simp [F_impl_WeightOf_L0, q1, q2, q3, oc, hx, m1, ih, wt, Int.mul_assoc]
  ·obtain ⟨m1, m2, m3⟩ := mulw (c := 6 - t.2) ha1 ha2 (by omega) (by omega) h0 (by omega)
   have ih := ih hr.2 (k + 1) (a * (6 - t.2)) q4 q5 q6 m2 m3
   rw [div_pow_succ s h0] at ih
   have hx' : ((s / 2 ^ k.toNat % 2) == 1) = false := beq_eq_false_iff_ne.2 hx
   simp [F_impl_WeightOf_L0, q1, q2, q3, oc, hx, hx', m1, w6, ih, wt, Int.mul_assoc]
theorem tsOk_iff {ts : List T} : tsOk ts = true ↔ (1 ≤ (ts.length : Int) ∧ (ts.length : Int) ≤ 5) ∧ ts.all tOk = true := by
 rw [tsOk, Bool.and_eq_true, nOk_iff]
theorem c_impl_WeightOf (ts : List T) (s : Int) (hb : (ts.length : Int) < 1099511627776) : call lf n_impl_WeightOf [.sl 0 (ts.map e2), .i s] = some (.i (wtOf ts s), []) := by
 rw [call_k lf n_impl_WeightOf _ (F := F_impl_WeightOf) rfl rfl]
 have C := c_impl_TestsOk ts hb
 cases h1 : tsOk ts with
 | false => simp [F_impl_WeightOf, C, h1, wtOf]
 | true =>
  have h1' := tsOk_iff.1 h1
  cases h2 : stOk ts.length s with
  | false => simp [F_impl_WeightOf, C, c_impl_StateOk, h1, h2, wtOf]
  | true =>
   have L := l_impl_WeightOf s ts.length (by omega) (ts.map e2) ts h1'.2 0 1 (by omega) (by simp) (by simp) (by omega) (by simp)
   simp at L
   simp [F_impl_WeightOf, C, c_impl_StateOk, h1, h2, wtOf, L]

theorem stOk_iff {n s : Int} : stOk n s = true ↔ (1 ≤ n ∧ n ≤ 5) ∧ 0 ≤ s ∧ s < 2 ^ n.toNat := by
 rw [stOk, Bool.and_eq_true, nOk_iff, decide_eq_true_eq]
theorem ksOk_iff {m : Int} {ks : List Int} : ksOk m ks = true ↔ (1 ≤ m ∧ m ≤ 5) ∧ (ks.length : Int) = m ∧ ks.all kOk = true := by
 rw [ksOk, Bool.and_eq_true, Bool.and_eq_true, nOk_iff, decide_eq_true_eq, and_assoc]
end
section
theorem sumTo_nonneg {f : Nat → Int} {B : Int} (hB : 0 ≤ B) (n : Nat) : (∀ k, k < n → 0 ≤ f k ∧ f k ≤ B) → 0 ≤ sumTo f n ∧ sumTo f n ≤ B * n := by
 induction n with
 | zero => intro _; simp [sumTo]
 | succ n ih =>
  intro h
  have a := ih (fun k hk => h k (by omega))
  have b := h n (by omega)
  simp only [sumTo]
  rw [show ((n + 1 : Nat) : Int) = n + 1 by omega, Int.mul_add]
  omega
theorem p2 {ts : List T} (h : tsOk ts = true) : 1 ≤ (2 : Nat) ^ ts.length ∧ (2 : Nat) ^ ts.length ≤ 32 ∧ ((2 ^ ts.length : Nat) : Int) = 2 ^ ts.length := by
 have h' := tsOk_iff.1 h
 have a : (2 : Nat) ^ ts.length ≤ 2 ^ 5 := Nat.pow_le_pow_right (by omega) (by omega)
 exact ⟨Nat.pow_pos (by omega), by omega, by simp⟩
theorem wtOf_of {ts : List T} (h : tsOk ts = true) {s : Int} (h0 : 0 ≤ s) (h1 : s < 2 ^ ts.length) : wtOf ts s = wt ts s := by
 have e : stOk ts.length s = true := by
  rw [stOk_iff]
  exact ⟨(tsOk_iff.1 h).1, h0, by simpa using h1⟩
 simp [wtOf, h, e]
def ot (ts : List T) (i : Nat) : List DV := ((ts.take i).map other).map e2
def cn (ts : List T) (i : Nat) : List DV := ot ts i ++ List.replicate (ts.length - i) (.st [.i 0, .i 0])
end
section
/-- a mark read with p parts before it -/
def mkS (m p : Int) (t : T) : Option Int :=
 if t.1 = 0 then (if 0 ≤ t.2 ∧ t.2 < m then some (p + 1) else none)
 else if t.1 = 1 then (if t.2 = 0 ∧ 1 ≤ p then some p else none)
 else if t.1 = 2 ∨ t.1 = 3 then (if t.2 = 0 ∧ 2 ≤ p then some (p - 1) else none)
 else none
def runM (m : Int) : Int → List T → Option Int
 | p, [] => some p
 | p, t :: r => match mkS m p t with
  | some q => runM m q r
  | none => none
def tmOk (m : Int) (ts : List T) : Bool := nOk m && decide ((ts.length : Int) ≤ 13) && runM m 0 ts == some 1
theorem c_impl_partsTaken (k : Int) : call lf n_impl_partsTaken [.i k] = some (.i (if k = 0 then 0 else if k = 1 then 1 else 2), []) := by
 rw [call_k lf n_impl_partsTaken _ (F := F_impl_partsTaken) rfl rfl]
 by_cases h0 : k = 0
 ·simp [F_impl_partsTaken, h0]
 ·have h0' : (k == 0) = false := beq_eq_false_iff_ne.2 h0
  by_cases h1 : k = 1
  ·simp [F_impl_partsTaken, h1]
  ·have h1' : (k == 1) = false := beq_eq_false_iff_ne.2 h1
   simp [F_impl_partsTaken, h0, h1, h0', h1']
theorem c_impl_markOk (m k a : Int) (hm : nOk m = true) : call lf n_impl_markOk [.i m, .st [.i k, .i a]] = some (.b (if k = 0 then decide (0 ≤ a ∧ a < m) else decide ((1 ≤ k ∧ k ≤ 3) ∧ a = 0)), []) := by
 rw [call_k lf n_impl_markOk _ (F := F_impl_markOk) rfl rfl]
 have hm' := nOk_iff.1 hm
 have w : wr (m - 1) = m - 1 := wr_id (by omega) (by omega)
 by_cases h0 : k = 0
 ·have e : decide (0 ≤ a ∧ a ≤ m - 1) = decide (0 ≤ a ∧ a < m) := decide_eq_decide.2 (by omega)
  simp [F_impl_markOk, h0, w, c_impl_isWithin, e]
 ·have h0' : (k == 0) = false := beq_eq_false_iff_ne.2 h0
  by_cases h1 : 1 ≤ k ∧ k ≤ 3
  ·have d1 : decide (1 ≤ k ∧ k ≤ 3) = true := decide_eq_true h1
   have e : decide ((1 ≤ k ∧ k ≤ 3) ∧ a = 0) = (a == 0) := by
    by_cases ha : a = 0
    ·simp [ha, h1]
    ·have ha' : (a == 0) = false := beq_eq_false_iff_ne.2 ha
     rw [ha']; simp [ha]
   simp [F_impl_markOk, h0, h0', c_impl_isWithin, d1, e]
  ·have d1 : decide (1 ≤ k ∧ k ≤ 3) = false := decide_eq_false h1
   have e : decide ((1 ≤ k ∧ k ≤ 3) ∧ a = 0) = false := decide_eq_false (fun h => h1 h.1)
   simp [F_impl_markOk, h0, h0', c_impl_isWithin, d1, e]
set_option maxHeartbeats 4000000 in
theorem l_impl_TermOk (m : Int) (hm : nOk m = true) (n : Int) (hb : n < 1099511627776) (es : List DV) (rest : List T) : ∀ k p : Int, 0 ≤ k → k + (rest.map e2).length = n → es.drop k.toNat = rest.map e2 → 0 ≤ p → p ≤ k →
  ex lf F_impl_TermOk_W0 ⟨[(0, .i m), (5, .i p), (18, .sl 0 es), (19, .i n), (20, .i k)], []⟩ =
  match runM m p rest with
  | some q => some (.exit 0, ⟨[(0, .i m), (5, .i q), (18, .sl 0 es), (19, .i n), (20, .i n)], []⟩)
  | none => some (.ret, ⟨[(4, .b false)], []⟩) := by
 induction rest with
 | nil =>
  intro k p h0 hn hd _ _
  rw [w_impl_TermOk_0]
  have hk : k = n := by simpa using hn
  simp [F_impl_TermOk_L0, hk, runM]
 | cons t rest ih =>
  intro k p h0 hn hd hp hpk
  obtain ⟨q1, q2, q3, q4, q5, q6⟩ := stp h0 hn hb hd
  have mk := c_impl_markOk m t.1 t.2 hm
  simp only [e2] at q2
  have nb : k ≤ 1099511627776 := by omega
  have w0 : wr (1 : Int) = 1 := wr_id (by omega) (by omega)
  have w1 : wr (p + 1) = p + 1 := wr_id (by omega) (by omega)
  have w2 : wr p = p := wr_id (by omega) (by omega)
  have w3 : wr (-1 : Int) = -1 := wr_id (by omega) (by omega)
  have w4 : wr (p + -1) = p + -1 := wr_id (by omega) (by omega)
  have w5 : wr (0 : Int) = 0 := wr_id (by omega) (by omega)
  obtain ⟨kd, a⟩ := t
  simp only at mk q2
  rw [w_impl_TermOk_0, runM]
  have iha := ih (k + 1) (p + 1) q4 q5 q6 (by omega) (by omega)
  have ihb := ih (k + 1) p q4 q5 q6 (by omega) (by omega)
  by_cases k0 : kd = 0
  ·subst k0
   by_cases ha : 0 ≤ a ∧ a < m
   ·have e : mkS m p (0, a) = some (p + 1) := by simp [mkS, ha]
    have d : decide (0 ≤ a ∧ a < m) = true := decide_eq_true ha
    simp only [if_true, d] at mk
    have np : ¬ p < 0 := by omega
    simp [F_impl_TermOk_L0, q1, q2, q3, mk, c_impl_partsTaken, np, w0, w1, iha, e]
   ·have e : mkS m p (0, a) = none := by simp only [mkS, if_true, if_neg ha]
    have d : decide (0 ≤ a ∧ a < m) = false := decide_eq_false ha
    simp only [if_true, d] at mk
    simp [F_impl_TermOk_L0, q1, q2, q3, mk, c_impl_partsTaken, e]
  ·rw [if_neg k0] at mk
   by_cases k1 : kd = 1
   ·subst k1
    by_cases ha : a = 0
    ·subst ha
     by_cases hp1 : 1 ≤ p
     ·have e : mkS m p (1, 0) = some p := by simp [mkS, hp1]
      have np : ¬ p < 1 := by omega
      simp at mk
      simp [F_impl_TermOk_L0, q1, q2, q3, mk, c_impl_partsTaken, np, w2, w5, ihb, e]
     ·have e : mkS m p (1, 0) = none := by simp [mkS, hp1]
      have np : p < 1 := by omega
      simp at mk
      simp [F_impl_TermOk_L0, q1, q2, q3, mk, c_impl_partsTaken, np, e]
    ·have e : mkS m p (1, a) = none := by simp [mkS, ha]
     have d : decide ((1 ≤ (1 : Int) ∧ (1 : Int) ≤ 3) ∧ a = 0) = false := decide_eq_false (fun h => ha h.2)
     rw [d] at mk
     simp [F_impl_TermOk_L0, q1, q2, q3, mk, c_impl_partsTaken, e]
   ·by_cases k2 : kd = 2 ∨ kd = 3
    ·by_cases ha : a = 0
     ·subst ha
      have d : decide ((1 ≤ kd ∧ kd ≤ 3) ∧ (0 : Int) = 0) = true := decide_eq_true ⟨by omega, rfl⟩
      rw [d] at mk
      by_cases hp1 : 2 ≤ p
      ·have e : mkS m p (kd, 0) = some (p - 1) := by simp [mkS, k0, k1, k2, hp1]
       have np : ¬ p < 2 := by omega
       have ihc := ih (k + 1) (p - 1) q4 q5 q6 (by omega) (by omega)
       simp only [Int.sub_eq_add_neg] at ihc e
       simp [F_impl_TermOk_L0, q1, q2, q3, mk, c_impl_partsTaken, k0, k1, np, w3, w4, ihc, e]
      ·have e : mkS m p (kd, 0) = none := by simp [mkS, k0, k1, k2, hp1]
       have np : p < 2 := by omega
       simp [F_impl_TermOk_L0, q1, q2, q3, mk, c_impl_partsTaken, k0, k1, np, e]
     ·have e : mkS m p (kd, a) = none := by simp [mkS, k0, k1, k2, ha]
      have d : decide ((1 ≤ kd ∧ kd ≤ 3) ∧ a = 0) = false := decide_eq_false (fun h => ha h.2)
      rw [d] at mk
      simp [F_impl_TermOk_L0, q1, q2, q3, mk, c_impl_partsTaken, k0, k1, e]
    ·have e : mkS m p (kd, a) = none := by simp [mkS, k0, k1, k2]
     have d : decide ((1 ≤ kd ∧ kd ≤ 3) ∧ a = 0) = false := decide_eq_false (fun h => by omega)
     rw [d] at mk
     simp [F_impl_TermOk_L0, q1, q2, q3, mk, c_impl_partsTaken, k0, k1, e]
theorem c_impl_TermOk (m : Int) (ts : List T) (hb : (ts.length : Int) < 1099511627776) : call lf n_impl_TermOk [.i m, .sl 0 (ts.map e2)] = some (.b (tmOk m ts), []) := by
 rw [call_k lf n_impl_TermOk _ (F := F_impl_TermOk) rfl rfl]
 cases h1 : nOk m with
 | false => simp [F_impl_TermOk, c_impl_manyOk, h1, tmOk]
 | true =>
  by_cases h2 : 1 ≤ (ts.length : Int) ∧ (ts.length : Int) ≤ 13
  ·have d : decide (1 ≤ (ts.length : Int) ∧ (ts.length : Int) ≤ 13) = true := decide_eq_true h2
   have L := l_impl_TermOk m h1 ts.length hb (ts.map e2) ts 0 0 (by omega) (by simp) (by simp) (by omega) (by omega)
   have d2 : decide ((ts.length : Int) ≤ 13) = true := decide_eq_true h2.2
   cases hr : runM m 0 ts with
   | none =>
    rw [hr] at L
    simp [F_impl_TermOk, c_impl_manyOk, c_impl_isWithin, h1, d, L, tmOk, hr]
   | some q =>
    rw [hr] at L
    have e : tmOk m ts = (q == 1) := by
     rw [tmOk, h1, d2, hr]
     cases hq : q == 1 <;> simp_all
    simp [F_impl_TermOk, c_impl_manyOk, c_impl_isWithin, h1, d, L, e]
  ·have d : decide (1 ≤ (ts.length : Int) ∧ (ts.length : Int) ≤ 13) = false := decide_eq_false h2
   have e : tmOk m ts = false := by
    by_cases h3 : (ts.length : Int) ≤ 13
    ·have : ts = [] := List.eq_nil_of_length_eq_zero (by omega)
     subst this
     simp [tmOk, runM]
    ·simp only [tmOk, decide_eq_false h3, Bool.and_false, Bool.false_and]
   simp [F_impl_TermOk, c_impl_manyOk, c_impl_isWithin, h1, d, e]
theorem tmOk_iff {m : Int} {ts : List T} : tmOk m ts = true ↔ (1 ≤ m ∧ m ≤ 5) ∧ (ts.length : Int) ≤ 13 ∧ runM m 0 ts = some 1 := by
 rw [tmOk, Bool.and_eq_true, Bool.and_eq_true, nOk_iff, decide_eq_true_eq, beq_iff_eq, and_assoc]
def letF (a : Int) (t : T) : Int := if t.1 = 0 then orI a (2 ^ t.2.toNat) else a
def lett (ts : List T) : Int := ts.foldl letF 0
def letOf (m : Int) (ts : List T) : Int := if tmOk m ts then lett ts else -1
end
section
inductive Tm where
 | tst (a : Nat)
 | neg (x : Tm)
 | and (x y : Tm)
 | or (x y : Tm)
def flt : Tm → List T
 | .tst a => [(0, (a : Int))]
 | .neg x => flt x ++ [(1, 0)]
 | .and x y => flt x ++ flt y ++ [(2, 0)]
 | .or x y => flt x ++ flt y ++ [(3, 0)]
def tb (m : Int) : Tm → Prop
 | .tst a => (a : Int) < m
 | .neg x => tb m x
 | .and x y => tb m x ∧ tb m y
 | .or x y => tb m x ∧ tb m y
def ev (s : Nat) : Tm → Bool
 | .tst a => s.testBit a
 | .neg x => !ev s x
 | .and x y => ev s x && ev s y
 | .or x y => ev s x || ev s y
/-- how many parts a mark takes -/
def taken (k : Int) : Nat := if k = 0 then 0 else if k = 1 then 1 else 2
def stepG {P : Type} (mk : T → List P → P) (st : List P) (t : T) : List P := st.take (st.length - taken t.1) ++ [mk t (st.drop (st.length - taken t.1))]
def valG {P : Type} (mk : T → List P → P) : Tm → P
 | .tst a => mk (0, (a : Int)) []
 | .neg x => mk (1, 0) [valG mk x]
 | .and x y => mk (2, 0) [valG mk x, valG mk y]
 | .or x y => mk (3, 0) [valG mk x, valG mk y]
theorem stepG_0 {P : Type} (mk : T → List P → P) (st : List P) (a : Int) : stepG mk st (0, a) = st ++ [mk (0, a) []] := by
 simp [stepG, taken]
theorem stepG_1 {P : Type} (mk : T → List P → P) (st : List P) (x : P) (a : Int) : stepG mk (st ++ [x]) (1, a) = st ++ [mk (1, a) [x]] := by
 simp [stepG, taken]
theorem stepG_2 {P : Type} (mk : T → List P → P) (st : List P) (x y : P) (k a : Int) (h : k = 2 ∨ k = 3) : stepG mk (st ++ [x, y]) (k, a) = st ++ [mk (k, a) [x, y]] := by
 have e : taken k = 2 := by unfold taken; rw [if_neg (by omega), if_neg (by omega)]
 simp [stepG, e]
theorem last1 {α : Type} {l : List α} (h : 1 ≤ l.length) : ∃ r x, l = r ++ [x] := by
 have := List.dropLast_concat_getLast (l := l) (by intro e; rw [e] at h; simp at h)
 exact ⟨_, _, this.symm⟩
theorem last2 {α : Type} {l : List α} (h : 2 ≤ l.length) : ∃ r x y, l = r ++ [x, y] := by
 obtain ⟨r, y, rfl⟩ := last1 (by omega : 1 ≤ l.length)
 obtain ⟨r', x, rfl⟩ := last1 (by simp at h; omega : 1 ≤ r.length)
 exact ⟨r', x, y, by simp⟩
theorem forest {m : Int} : ∀ {ts : List T} {p q : Int}, runM m p ts = some q → ∀ F : List Tm, (F.length : Int) = p → (∀ x ∈ F, tb m x) →
  ∃ F' : List Tm, (F'.length : Int) = q ∧ (∀ x ∈ F', tb m x) ∧ F'.flatMap flt = F.flatMap flt ++ ts ∧ ∀ (P : Type) (mk : T → List P → P), ts.foldl (stepG mk) (F.map (valG mk)) = F'.map (valG mk)
 | [], p, q, h, F, hl, hb => by
  simp only [runM, Option.some.injEq] at h
  exact ⟨F, by omega, hb, by simp, fun P mk => rfl⟩
 | t :: ts, p, q, h, F, hl, hb => by
  simp only [runM] at h
  have go : ∀ (G : List Tm), runM m (G.length : Int) ts = some q → (∀ x ∈ G, tb m x) → G.flatMap flt = F.flatMap flt ++ [t] → (∀ (P : Type) (mk : T → List P → P), stepG mk (F.map (valG mk)) t = G.map (valG mk)) →
    ∃ F' : List Tm, (F'.length : Int) = q ∧ (∀ x ∈ F', tb m x) ∧ F'.flatMap flt = F.flatMap flt ++ (t :: ts) ∧ ∀ (P : Type) (mk : T → List P → P), (t :: ts).foldl (stepG mk) (F.map (valG mk)) = F'.map (valG mk) := by
   intro G h1 h2 h3 h4
   obtain ⟨F', q1, q2, q3, q4⟩ := forest h1 G rfl h2
   refine ⟨F', q1, q2, by rw [q3, h3]; simp, fun P mk => ?_⟩
   rw [List.foldl_cons, h4, q4]
  obtain ⟨k, a⟩ := t
  cases hm : mkS m p (k, a) with
  | none => rw [hm] at h; cases h
  | some p1 =>
   rw [hm] at h
   simp only at h
   unfold mkS at hm
   simp only at hm
   split at hm
   ·rename_i hk
    subst hk
    split at hm
    ·rename_i ha
     injection hm with hm
     obtain ⟨n, rfl⟩ := Int.eq_ofNat_of_zero_le ha.1
     refine go (F ++ [.tst n]) (by rw [show (((F ++ [Tm.tst n]).length : Nat) : Int) = p1 by simp; omega]; exact h) (fun x hx => ?_) (by simp [flt]) (fun P mk => by rw [stepG_0]; simp [valG])
     rcases List.mem_append.1 hx with h1 | h1
     ·exact hb x h1
     ·simp only [List.mem_singleton] at h1; subst h1; exact ha.2
    ·cases hm
   ·split at hm
    ·rename_i _ hk
     subst hk
     split at hm
     ·rename_i ha
      injection hm with hm
      obtain ⟨r, x, rfl⟩ := last1 (l := F) (by omega)
      have ha0 := ha.1
      subst ha0
      refine go (r ++ [.neg x]) (by rw [show (((r ++ [Tm.neg x]).length : Nat) : Int) = p1 by simp at hl ⊢; omega]; exact h) (fun y hy => ?_) (by simp [flt]) (fun P mk => by rw [List.map_append]; simp only [List.map_cons, List.map_nil]; rw [stepG_1]; simp [valG])
      rcases List.mem_append.1 hy with h1 | h1
      ·exact hb y (List.mem_append_left _ h1)
      ·simp only [List.mem_singleton] at h1; subst h1; exact hb x (by simp)
     ·cases hm
    ·split at hm
     ·rename_i _ _ hk
      split at hm
      ·rename_i ha
       injection hm with hm
       obtain ⟨r, x, y, rfl⟩ := last2 (l := F) (by omega)
       have ha0 := ha.1
       subst ha0
       have hx := hb x (by simp)
       have hy := hb y (by simp)
       rcases hk with rfl | rfl
       ·refine go (r ++ [.and x y]) (by rw [show (((r ++ [Tm.and x y]).length : Nat) : Int) = p1 by simp at hl ⊢; omega]; exact h) (fun z hz => ?_) (by simp [flt]) (fun P mk => by rw [List.map_append]; simp only [List.map_cons, List.map_nil]; rw [stepG_2 _ _ _ _ _ _ (.inl rfl)]; simp [valG])
        rcases List.mem_append.1 hz with h1 | h1
        ·exact hb z (List.mem_append_left _ h1)
        ·simp only [List.mem_singleton] at h1; subst h1; exact ⟨hx, hy⟩
       ·refine go (r ++ [.or x y]) (by rw [show (((r ++ [Tm.or x y]).length : Nat) : Int) = p1 by simp at hl ⊢; omega]; exact h) (fun z hz => ?_) (by simp [flt]) (fun P mk => by rw [List.map_append]; simp only [List.map_cons, List.map_nil]; rw [stepG_2 _ _ _ _ _ _ (.inr rfl)]; simp [valG])
        rcases List.mem_append.1 hz with h1 | h1
        ·exact hb z (List.mem_append_left _ h1)
        ·simp only [List.mem_singleton] at h1; subst h1; exact ⟨hx, hy⟩
      ·cases hm
     ·cases hm
theorem tm_tree {m : Int} {ts : List T} (h : tmOk m ts = true) : ∃ x, tb m x ∧ flt x = ts ∧ ∀ (P : Type) (mk : T → List P → P), ts.foldl (stepG mk) [] = [valG mk x] := by
 obtain ⟨_, _, h3⟩ := tmOk_iff.1 h
 obtain ⟨F, q1, q2, q3, q4⟩ := forest h3 [] rfl (by simp)
 match F, q1 with
 | [x], _ => exact ⟨x, q2 x (by simp), by simpa using q3, fun P mk => by simpa using q4 P mk⟩

def yesW (a : Nat) : BitVec 32 := match a with
 | 0 => 2863311530#32
 | 1 => 3435973836#32
 | 2 => 4042322160#32
 | 3 => 4278255360#32
 | _ => 4294901760#32
def mkW (t : T) (ps : List (BitVec 32)) : BitVec 32 :=
 if t.1 = 0 then yesW t.2.toNat else if t.1 = 1 then ~~~(ps.getD 0 0) else if t.1 = 2 then ps.getD 0 0 &&& ps.getD 1 0 else ps.getD 0 0 ||| ps.getD 1 0
theorem yes_bit : ∀ (a : _root_.Fin 5) (s : _root_.Fin 32), (yesW a.val).getLsbD s.val = s.val.testBit a.val := by decide +kernel
theorem val_bit {m : Int} (hm : m ≤ 5) : ∀ {x : Tm}, tb m x → ∀ {s : Nat}, s < 32 → (valG mkW x).getLsbD s = ev s x
 | .tst a, h, s, hs => by
  have ha : a < 5 := by have : (a : Int) < m := h; omega
  have := yes_bit ⟨a, ha⟩ ⟨s, hs⟩
  simpa [valG, mkW, ev] using this
 | .neg x, h, s, hs => by
  have ih := val_bit hm (x := x) h hs
  have e : valG mkW (.neg x) = ~~~(valG mkW x) := by simp [valG, mkW]
  rw [e, BitVec.getLsbD_not, ih]
  simp [hs, ev]
 | .and x y, h, s, hs => by
  have i1 := val_bit hm (x := x) h.1 hs
  have i2 := val_bit hm (x := y) h.2 hs
  simp [valG, mkW, ev, i1, i2]
 | .or x y, h, s, hs => by
  have i1 := val_bit hm (x := x) h.1 hs
  have i2 := val_bit hm (x := y) h.2 hs
  simp [valG, mkW, ev, i1, i2]
def tsW (ts : List T) : BitVec 32 := (ts.foldl (stepG mkW) []).headD 0
/-- the value of a term in a state -/
def tv (ts : List T) (s : Nat) : Bool := (tsW ts).getLsbD s
theorem tv_tree {m : Int} {ts : List T} (h : tmOk m ts = true) : ∃ x, tb m x ∧ flt x = ts ∧ ts.foldl (stepG mkW) [] = [tsW ts] ∧ ∀ s, s < 32 → tv ts s = ev s x := by
 obtain ⟨h1, _, _⟩ := tmOk_iff.1 h
 obtain ⟨x, b, f, g⟩ := tm_tree h
 have e : tsW ts = valG mkW x := by unfold tsW; rw [g]; rfl
 exact ⟨x, b, f, by rw [g, e], fun s hs => by unfold tv; rw [e]; exact val_bit h1.2 b hs⟩
/-- A term reads no tests but its own. -/
theorem ev_congr {m : Int} {s s' : Nat} (h : ∀ a : Nat, (a : Int) < m → s.testBit a = s'.testBit a) : ∀ {x : Tm}, tb m x → ev s x = ev s' x
 | .tst a, hb => h a hb
 | .neg x, hb => by simp only [ev, ev_congr h (x := x) hb]
 | .and x y, hb => by simp only [ev, ev_congr h (x := x) hb.1, ev_congr h (x := y) hb.2]
 | .or x y, hb => by simp only [ev, ev_congr h (x := x) hb.1, ev_congr h (x := y) hb.2]
end
section
theorem xor_bound {a b : Int} (h1 : 0 ≤ a) (h2 : a < 4611686018427387904) (h3 : 0 ≤ b) (h4 : b < 4611686018427387904) : 0 ≤ xorI a b ∧ xorI a b < 4611686018427387904 := by
 have e : (BitVec.ofInt 64 a ^^^ BitVec.ofInt 64 b).toNat = a.toNat ^^^ b.toNat := by
  simp only [BitVec.toNat_xor, BitVec.toNat_ofInt]
  congr 1 <;> omega
 have k : a.toNat ^^^ b.toNat < 2 ^ 62 := Nat.xor_lt_two_pow (by omega) (by omega)
 unfold xorI
 rw [e, wr_id (by omega) (by omega)]
 omega
def hs (bs : List Nat) (p : Int) : Int := (bs.getD (p.tmod bs.length).toNat 0 : Nat) * 131 + (bs.getD ((p * 7 + 3).tmod bs.length).toNat 0 : Nat) * 1117 + p * 29 + p.tdiv bs.length * 53
def pk (bs : List Nat) (p n : Int) : Int := if bs.length = 0 then 0 else if p < bs.length then ((bs.getD p.toNat 0 : Nat) : Int).tmod n else (xorI (hs bs p) ((hs bs p).tdiv 64)).tmod n
theorem byte_lt {bs : List Nat} (hb : ∀ y ∈ bs, y < 256) (i : Nat) : bs.getD i 0 < 256 := by
 by_cases h : i < bs.length
 ·have : bs.getD i 0 = bs[i] := by simp [List.getD, h]
  rw [this]
  exact hb _ (List.getElem_mem h)
 ·have : bs.getD i 0 = 0 := by simp [List.getD, List.getElem?_eq_none (by omega : bs.length ≤ i)]
  omega
theorem tdiv_bound {p l : Int} (h0 : 0 ≤ p) (hl : 1 ≤ l) : 0 ≤ p.tdiv l ∧ p.tdiv l ≤ p := by
 rw [Int.tdiv_eq_ediv_of_nonneg h0]
 exact ⟨Int.ediv_nonneg h0 (by omega), Int.ediv_le_self _ h0⟩
theorem tmod_bound {p l : Int} (h0 : 0 ≤ p) (hl : 1 ≤ l) : 0 ≤ p.tmod l ∧ p.tmod l < l := by
 rw [Int.tmod_eq_emod_of_nonneg h0]
 exact ⟨Int.emod_nonneg _ (by omega), Int.emod_lt_of_pos _ (by omega)⟩
theorem hs_bound {bs : List Nat} (hb : ∀ y ∈ bs, y < 256) {p : Int} (h0 : 0 ≤ p) (h1 : p ≤ 1000000) (hl : 1 ≤ bs.length) : 0 ≤ hs bs p ∧ hs bs p < 1000000000 := by
 have a := byte_lt hb (p.tmod bs.length).toNat
 have b := byte_lt hb ((p * 7 + 3).tmod bs.length).toNat
 have c := tdiv_bound (p := p) (l := bs.length) h0 (by omega)
 unfold hs
 omega
theorem pk_bound {bs : List Nat} (hb : ∀ y ∈ bs, y < 256) {p n : Int} (h0 : 0 ≤ p) (h1 : p ≤ 1000000) (hn : 1 ≤ n) : 0 ≤ pk bs p n ∧ pk bs p n < n := by
 unfold pk
 split
 ·omega
 ·split
  ·exact tmod_bound (by omega) hn
  ·have a := hs_bound hb h0 h1 (by omega)
   have b := tdiv_bound (p := hs bs p) (l := 64) a.1 (by omega)
   have c := xor_bound a.1 (by omega) b.1 (by omega)
   exact tmod_bound c.1 hn
theorem atI_y {bs : List Nat} {i : Int} (h0 : 0 ≤ i) (h1 : i < bs.length) : atI (bs.map .y) i = some (.y (bs.getD i.toNat 0)) := by
 have : i.toNat < bs.length := by omega
 simp [atI, h0, List.getD, this]

theorem c_pick {bs : List Nat} (hb : ∀ y ∈ bs, y < 256) (hl : bs.length ≤ 2000) {p n : Int} (h0 : 0 ≤ p) (h1 : p < 1000000) (hn : 1 ≤ n) :
  call lf n_spec_l20Rd_pick [.ref (.st [.sl 0 (bs.map .y), .i p]), .i n] = some (.i (pk bs p n), [.st [.sl 0 (bs.map .y), .i (p + 1)]]) := by
 rw [call_k lf n_spec_l20Rd_pick _ (F := F_spec_l20Rd_pick) rfl rfl]
 have w1 : wr (p + 1) = p + 1 := wr_id (by omega) (by omega)
 have w2 : wr p = p := wr_id (by omega) (by omega)
 have n1 : ¬ n < 1 := by omega
 have n2 : ¬ n = 0 := by omega
 by_cases e : bs.length = 0
 ·have e1 : ((bs.length : Int) == 0) = true := by rw [e]; rfl
  simp [F_spec_l20Rd_pick, w1, n1, e1, pk, e]
 ·have e1 : ((bs.length : Int) == 0) = false := beq_eq_false_iff_ne.2 (by omega)
  by_cases f : p < bs.length
  ·have a := atI_y (bs := bs) h0 f
   simp [F_spec_l20Rd_pick, w1, w2, n1, n2, e1, pk, e, f, a]
  ·have lpos : (1 : Int) ≤ bs.length := by omega
   have l0 : ¬ bs = [] := fun h => e (by rw [h]; rfl)
   have t1 := tmod_bound h0 lpos
   have t2 := tmod_bound (p := p * 7 + 3) (by omega) lpos
   have a1 := atI_y t1.1 t1.2
   have a2 := atI_y t2.1 t2.2
   have b1 := byte_lt hb (p.tmod bs.length).toNat
   have b2 := byte_lt hb ((p * 7 + 3).tmod bs.length).toNat
   have d := tdiv_bound h0 lpos
   have H := hs_bound hb h0 (by omega) (by omega : 1 ≤ bs.length)
   have hd : hs bs p = (bs.getD (p.tmod bs.length).toNat 0 : Nat) * 131 + (bs.getD ((p * 7 + 3).tmod bs.length).toNat 0 : Nat) * 1117 + p * 29 + p.tdiv bs.length * 53 := rfl
   have hp : pk bs p n = (xorI (hs bs p) ((hs bs p).tdiv 64)).tmod n := by unfold pk; rw [if_neg e, if_neg f]
   generalize bs.getD (p.tmod bs.length).toNat 0 = u at *
   generalize bs.getD ((p * 7 + 3).tmod bs.length).toNat 0 = v at *
   have v1 : wr (p * 7) = p * 7 := wr_id (by omega) (by omega)
   have v2 : wr (p * 7 + 3) = p * 7 + 3 := wr_id (by omega) (by omega)
   have v3 : wr ((u : Int) * 131) = u * 131 := wr_id (by omega) (by omega)
   have v4 : wr ((v : Int) * 1117) = v * 1117 := wr_id (by omega) (by omega)
   have v5 : wr ((u : Int) * 131 + v * 1117) = u * 131 + v * 1117 := wr_id (by omega) (by omega)
   have v6 : wr (p * 29) = p * 29 := wr_id (by omega) (by omega)
   have v7 : wr ((u : Int) * 131 + v * 1117 + p * 29) = u * 131 + v * 1117 + p * 29 := wr_id (by omega) (by omega)
   have v8 : wr (p.tdiv bs.length) = p.tdiv bs.length := wr_id (by omega) (by omega)
   have v9 : wr (p.tdiv bs.length * 53) = p.tdiv bs.length * 53 := wr_id (by omega) (by omega)
   have va : wr ((u : Int) * 131 + v * 1117 + p * 29 + p.tdiv bs.length * 53) = hs bs p := by rw [hd]; exact wr_id (by omega) (by omega)
   have b := tdiv_bound (p := hs bs p) (l := 64) H.1 (by omega)
   have vb : wr ((hs bs p).tdiv 64) = (hs bs p).tdiv 64 := wr_id (by omega) (by omega)
   simp [F_spec_l20Rd_pick, w1, w2, n1, n2, e1, f, l0, a1, a2, v1, v2, v3, v4, v5, v6, v7, v8, v9, va, vb, hp]
theorem c_odd {bs : List Nat} (hb : ∀ y ∈ bs, y < 256) (hl : bs.length ≤ 2000) {p n : Int} (h0 : 0 ≤ p) (h1 : p < 1000000) (hn : 1 ≤ n) (hn2 : n ≤ 1000000) :
  call lf n_spec_l20Rd_odd [.ref (.st [.sl 0 (bs.map .y), .i p]), .i n] = some (.b (pk bs p n == n - 1), [.st [.sl 0 (bs.map .y), .i (p + 1)]]) := by
 rw [call_k lf n_spec_l20Rd_odd _ (F := F_spec_l20Rd_odd) rfl rfl]
 have n1 : 0 < n := by omega
 have w : wr (n - 1) = n - 1 := wr_id (by omega) (by omega)
 simp [F_spec_l20Rd_odd, n1, w, c_pick hb hl h0 h1 hn]
theorem c_open {bs : List Nat} (hl : bs.length ≤ 1048576) : call lf n_spec_l20Open [.sl 0 (bs.map .y)] = some (.ref (.st [.sl 0 ((bs.take 2000).map .y), .i 0]), []) := by
 rw [call_k lf n_spec_l20Open _ (F := F_spec_l20Open) rfl rfl]
 by_cases h : 2000 < (bs.length : Int)
 ·have h2 : (2000 : Int) ≤ bs.length := by omega
  have h3 : ∀ x ∈ bs, (DV.y x).cells.length = 1 := fun _ _ => rfl
  simp [F_spec_l20Open, h, h2, List.map_take]
 ·have h2 : bs.take 2000 = bs := List.take_of_length_le (by omega)
  simp [F_spec_l20Open, h, h2]

theorem l_l20Tests {bs : List Nat} (hb : ∀ y ∈ bs, y < 256) (hl : bs.length ≤ 2000) (nn : Int) (j : Nat) : ∀ (p : Int) (ts : List T), 0 ≤ p → p + 2 * j < 900000 → ts.length + j ≤ 100 →
  ∃ us : List T, us.length = ts.length + j ∧
  ex lf F_spec_l20Tests_W0 ⟨[(0, .oad 23 1 0 0), (1, .i nn), (5, .own 3600 ts.length 0 ts.length), (6, .i j)], [(23, [.st [.sl 0 (bs.map .y), .i p]]), (3600, ts.map e2)]⟩ =
   some (.exit 0, ⟨[(0, .oad 23 1 0 0), (1, .i nn), (5, .own 3600 us.length 0 us.length), (6, .i 0)], [(23, [.st [.sl 0 (bs.map .y), .i (p + 2 * j)]]), (3600, us.map e2)]⟩) := by
 induction j with
 | zero =>
  intro p ts h0 h1 h2
  refine ⟨ts, by omega, ?_⟩
  rw [w_spec_l20Tests_0]
  simp [F_spec_l20Tests_L0]
 | succ j ih =>
  intro p ts h0 h1 h2
  have a1 := pk_bound hb h0 (by omega : p ≤ 1000000) (by omega : (1 : Int) ≤ 9)
  have a2 := pk_bound hb (by omega : 0 ≤ p + 1) (by omega : p + 1 ≤ 1000000) (by omega : (1 : Int) ≤ 5)
  have k1 := c_pick hb hl h0 (by omega : p < 1000000) (by omega : (1 : Int) ≤ 9)
  have k2 := c_pick hb hl (by omega : 0 ≤ p + 1) (by omega : p + 1 < 1000000) (by omega : (1 : Int) ≤ 5)
  have w1 : wr (1 + pk bs p 9) = 1 + pk bs p 9 := wr_id (by omega) (by omega)
  have w2 : wr (1 + pk bs (p + 1) 5) = 1 + pk bs (p + 1) 5 := wr_id (by omega) (by omega)
  have w3 : wr (j : Int) = j := wr_id (by omega) (by omega)
  obtain ⟨us, u1, u2⟩ := ih (p + 1 + 1) (ts ++ [(1 + pk bs p 9, 1 + pk bs (p + 1) 5)]) (by omega) (by omega) (by simp; omega)
  refine ⟨us, by rw [u1]; simp; omega, ?_⟩
  rw [w_spec_l20Tests_0]
  have c1 : (0 : Int) < (j : Int) + 1 := by omega
  have c2 : ts.length + 1 ≤ bound := by unfold bound; omega
  simp [e2, Int.natCast_add] at u2
  rw [show p + 2 * ((j + 1 : Nat) : Int) = p + 1 + 1 + 2 * j by omega]
  simp [F_spec_l20Tests_L0, c1, c2, k1, k2, w1, w2, w3, e2, u2]
theorem c_l20Tests {bs : List Nat} (hb : ∀ y ∈ bs, y < 256) (hl : bs.length ≤ 2000) {p n : Int} (h0 : 0 ≤ p) (h1 : p < 800000) (hn : 1 ≤ n) (hn2 : n ≤ 1000000) :
  ∃ (us : List T) (p' : Int), us.length ≤ 5 ∧ p ≤ p' ∧ p' ≤ p + 20 ∧ call lf n_spec_l20Tests [.ref (.st [.sl 0 (bs.map .y), .i p]), .i n] = some (.fr 2 (us.map e2), [.st [.sl 0 (bs.map .y), .i p']]) := by
 have a1 := pk_bound hb h0 (by omega : p ≤ 1000000) (by omega : (1 : Int) ≤ 5)
 have k1 := c_pick hb hl h0 (by omega : p < 1000000) (by omega : (1 : Int) ≤ 5)
 obtain ⟨j, hj⟩ : ∃ j : Nat, 1 + pk bs p 5 = j := ⟨(1 + pk bs p 5).toNat, by omega⟩
 have w1 : wr (j : Int) = j := wr_id (by omega) (by omega)
 obtain ⟨us, u1, u2⟩ := l_l20Tests hb hl n j (p + 1) [] (by omega) (by omega) (by simp; omega)
 simp at u1 u2
 have q0 : 0 ≤ p + 1 + 2 * (j : Int) := by omega
 have k2 := c_odd hb hl q0 (by omega) hn hn2
 generalize hq : p + 1 + 2 * (j : Int) = q at *
 cases ho : (pk bs q n == n - 1) with
 | false =>
  rw [ho] at k2
  refine ⟨us, q + 1, by omega, by omega, by omega, ?_⟩
  rw [call_k lf n_spec_l20Tests _ (F := F_spec_l20Tests) rfl rfl]
  simp [F_spec_l20Tests, k1, hj, w1, u2, k2]
 | true =>
  rw [ho] at k2
  have k3 := c_pick hb hl (by omega : 0 ≤ q + 1) (by omega : q + 1 < 1000000) (by omega : (1 : Int) ≤ 3)
  have a3 := pk_bound hb (by omega : 0 ≤ q + 1) (by omega : q + 1 ≤ 1000000) (by omega : (1 : Int) ≤ 3)
  have k4 := c_pick hb hl (by omega : 0 ≤ q + 1 + 1) (by omega : q + 1 + 1 < 1000000) (by omega : (1 : Int) ≤ 2)
  have a4 := pk_bound hb (by omega : 0 ≤ q + 1 + 1) (by omega : q + 1 + 1 ≤ 1000000) (by omega : (1 : Int) ≤ 2)
  match us, u1 with
  | [], u1 => simp at u1; omega
  | t :: r, u1 =>
   simp [e2, Int.natCast_add] at u2
   generalize pk bs (q + 1) 3 = x3 at *
   generalize pk bs (q + 1 + 1) 2 = x4 at *
   have c3 : x3 = 0 ∨ x3 = 1 ∨ x3 = 2 := by omega
   have c4 : x4 = 0 ∨ x4 = 1 := by omega
   have e0 : ∀ (a b : Int), DV.st [.i a, .i b] = e2 (a, b) := fun _ _ => rfl
   rcases c3 with rfl | rfl | rfl
   ·refine ⟨[], q + 1 + 1, by simp, by omega, by omega, ?_⟩
    rw [call_k lf n_spec_l20Tests _ (F := F_spec_l20Tests) rfl rfl]
    simp [F_spec_l20Tests, k1, hj, w1, u2, k2, k3]
   ·rcases c4 with rfl | rfl
    ·refine ⟨(0, t.2) :: r, q + 1 + 1 + 1, by simp at u1 ⊢; omega, by omega, by omega, ?_⟩
     rw [call_k lf n_spec_l20Tests _ (F := F_spec_l20Tests) rfl rfl]
     simp [F_spec_l20Tests, k1, hj, w1, u2, k2, k3, k4, e2]
    ·refine ⟨(10, t.2) :: r, q + 1 + 1 + 1, by simp at u1 ⊢; omega, by omega, by omega, ?_⟩
     rw [call_k lf n_spec_l20Tests _ (F := F_spec_l20Tests) rfl rfl]
     simp [F_spec_l20Tests, k1, hj, w1, u2, k2, k3, k4, e2]
   ·rcases c4 with rfl | rfl
    ·refine ⟨(t.1, 0) :: r, q + 1 + 1 + 1, by simp at u1 ⊢; omega, by omega, by omega, ?_⟩
     rw [call_k lf n_spec_l20Tests _ (F := F_spec_l20Tests) rfl rfl]
     simp [F_spec_l20Tests, k1, hj, w1, u2, k2, k3, k4, e2]
    ·refine ⟨(t.1, 6) :: r, q + 1 + 1 + 1, by simp at u1 ⊢; omega, by omega, by omega, ?_⟩
     rw [call_k lf n_spec_l20Tests _ (F := F_spec_l20Tests) rfl rfl]
     simp [F_spec_l20Tests, k1, hj, w1, u2, k2, k3, k4, e2]

theorem take_b {bs : List Nat} (hb : ∀ y ∈ bs, y < 256) : (∀ y ∈ bs.take 2000, y < 256) ∧ (bs.take 2000).length ≤ 2000 :=
 ⟨fun y h => hb y (List.mem_of_mem_take h), by simp; omega⟩
end
section
theorem cells_st (cs : List DV) : (DV.st cs).cells = cs := rfl
theorem cells_sl (p : Nat) (es : List DV) : (DV.sl p es).cells = [DV.sl p es] := rfl
theorem cells_i (n : Int) : (DV.i n).cells = [DV.i n] := rfl
theorem cells_y (n : Nat) : (DV.y n).cells = [DV.y n] := rfl
theorem cells_b (n : Bool) : (DV.b n).cells = [DV.b n] := rfl
theorem cells_s (n : List UInt8) : (DV.s n).cells = [DV.s n] := rfl
attribute [-simp] DV.cells
attribute [local simp] cells_st cells_sl cells_i cells_y cells_b cells_s
def row (t : List T) : DV := .sl 1 (t.map e2)
theorem flat_set (m : T) : ∀ {ps : List (List T)} {A : Nat} {t : List T}, ps[A]? = some t → (ps.set A (t ++ [m])).flatten.length = ps.flatten.length + 1
 | [], _, _, h => by simp at h
 | x :: ps, 0, t, h => by simp at h; subst h; simp; omega
 | x :: ps, A + 1, t, h => by
  simp only [List.getElem?_cons_succ] at h
  have := flat_set m h
  simp at this ⊢
  omega
theorem flat_len : ∀ {ps : List (List T)} {A : Nat} {t : List T}, ps[A]? = some t → t.length ≤ ps.flatten.length
 | [], _, _, h => by simp at h
 | x :: ps, 0, t, h => by simp at h; subst h; simp
 | x :: ps, A + 1, t, h => by
  simp only [List.getElem?_cons_succ] at h
  have := flat_len h
  simp only [List.flatten_cons, List.length_append]; omega
end
section
attribute [-simp] DV.cells
attribute [local simp] cells_st cells_sl cells_i cells_y cells_b cells_s
theorem cells_w (x : BitVec 32) : (DV.w x).cells = [DV.w x] := rfl
attribute [local simp] cells_w
theorem c_impl_statesOfPart (k a : Int) (ps : List (BitVec 32)) (h : (k = 0 ∧ 0 ≤ a ∧ a < 5) ∨ (k = 1 ∧ 1 ≤ ps.length) ∨ ((k = 2 ∨ k = 3) ∧ 2 ≤ ps.length)) :
  call lf n_impl_statesOfPart [.st [.i k, .i a], .sl 0 (ps.map .w)] = some (.w (mkW (k, a) ps), []) := by
 rw [call_k lf n_impl_statesOfPart _ (F := F_impl_statesOfPart) rfl rfl]
 rcases h with ⟨rfl, h0, h5⟩ | ⟨rfl, h1⟩ | ⟨hk, h2⟩
 ·have c5 : a = 0 ∨ a = 1 ∨ a = 2 ∨ a = 3 ∨ a = 4 := by omega
  rcases c5 with rfl | rfl | rfl | rfl | rfl <;> simp [F_impl_statesOfPart, gEnv_2, mkW, yesW]
 ·obtain ⟨x, xs, rfl⟩ : ∃ x xs, ps = x :: xs := by cases ps with | nil => simp at h1 | cons x xs => exact ⟨x, xs, rfl⟩
  simp [F_impl_statesOfPart, gEnv_2, mkW, atI]
 ·obtain ⟨x, y, xs, rfl⟩ : ∃ x y xs, ps = x :: y :: xs := by
   match ps, h2 with
   | x :: y :: xs, _ => exact ⟨x, y, xs, rfl⟩
  rcases hk with rfl | rfl <;> simp [F_impl_statesOfPart, gEnv_2, mkW, atI]
end
section
attribute [-simp] DV.cells
attribute [local simp] cells_st cells_sl cells_i cells_y cells_b cells_s cells_w
/-- the stack lies in front of what was there -/
def stF (n k : Int) (es : List DV) (N : Nat) (g : List DV) (st : List (BitVec 32)) : LS :=
 ⟨[(1, .fn n_impl_statesOfPart []), (5, .own 2568 N 0 st.length), (10, .sl 0 es), (11, .i n), (12, .i k)], [(2568, st.map .w ++ g)]⟩
set_option maxHeartbeats 4000000 in
theorem l_fold0 (n k : Int) (es : List DV) (N : Nat) (g : List DV) (st : List (BitVec 32)) (hN : N = st.length + g.length) (hl : st.length ≤ 1000) (a : Int) (h0 : 0 ≤ a) (h5 : a < 5) (hk : k < n) (hat : atI es k = some (.st [.i 0, .i a])) (hw : wr (k + 1) = k + 1) :
  ∃ N' g', N' = (stepG mkW st (0, a)).length + g'.length ∧ ex lf F_impl_foldTerm_uint32_L0 (stF n k es N g st) = some (.normal, stF n (k + 1) es N' g' (stepG mkW st (0, a))) := by
 have C := c_impl_statesOfPart 0 a [] (.inl ⟨rfl, h0, h5⟩)
 have P := c_impl_partsTaken 0
 have w1 : wr (st.length : Int) = st.length := wr_id (by omega) (by omega)
 have b1 : st.length + 1 ≤ bound := by unfold bound; omega
 rw [stepG_0]
 simp at C P
 cases g with
 | nil =>
  refine ⟨st.length + 1, [], by simp, ?_⟩
  have hN' : N = st.length := by simpa using hN
  subst hN'
  unfold stF
  simp [F_impl_foldTerm_uint32_L0, hk, hat, hw, C, P, w1, b1]
 | cons y g =>
  refine ⟨N, g, by simp at hN ⊢; omega, ?_⟩
  have hL : (st.map DV.w ++ y :: g).length = N := by rw [hN]; simp
  have t1 : List.take st.length (st.map DV.w ++ y :: g) = st.map .w := by rw [List.take_append_of_le_length (by simp), List.take_of_length_le (by simp)]
  have t2 : List.drop (st.length + 1) (st.map DV.w ++ y :: g) = g := by rw [List.drop_append]; simp
  have n1 : st.length < N := by rw [hN]; simp
  have n2 : st.length + 1 ≤ N := by omega
  have n3 : ¬ st.length = N := by omega
  have n4 : st.length ≤ N := by omega
  have t4 : List.drop st.length (st.map DV.w) = [] := List.drop_of_length_le (by simp)
  unfold stF
  generalize st.map DV.w ++ y :: g = L at *
  simp [F_impl_foldTerm_uint32_L0, hk, hat, hw, C, P, w1, b1, hL, t1, t2, t4, n1, n2, n3, n4]
set_option maxHeartbeats 4000000 in
theorem l_fold1 (n k : Int) (es : List DV) (N : Nat) (g : List DV) (st : List (BitVec 32)) (x : BitVec 32) (hN : N = (st ++ [x]).length + g.length) (hl : st.length ≤ 1000) (a : Int) (hk : k < n) (hat : atI es k = some (.st [.i 1, .i a])) (hw : wr (k + 1) = k + 1) :
  ∃ N' g', N' = (stepG mkW (st ++ [x]) (1, a)).length + g'.length ∧ ex lf F_impl_foldTerm_uint32_L0 (stF n k es N g (st ++ [x])) = some (.normal, stF n (k + 1) es N' g' (stepG mkW (st ++ [x]) (1, a))) := by
 have C := c_impl_statesOfPart 1 a [x] (.inr (.inl ⟨rfl, by simp⟩))
 have P := c_impl_partsTaken 1
 have w1 : wr (st.length : Int) = st.length := wr_id (by omega) (by omega)
 have b1 : st.length + 1 ≤ bound := by unfold bound; omega
 rw [stepG_1]
 simp at C P hN
 refine ⟨N, g, by simp; omega, ?_⟩
 have hL : ((st ++ [x]).map DV.w ++ g).length = N := by rw [hN]; simp; omega
 have t1 : List.take st.length ((st ++ [x]).map DV.w ++ g) = st.map .w := by rw [List.map_append, List.append_assoc, List.take_append_of_le_length (by simp), List.take_of_length_le (by simp)]
 have t2 : List.drop (st.length + 1) ((st ++ [x]).map DV.w ++ g) = g := by rw [List.drop_append]; simp
 have t3 : List.drop st.length (List.take (st.length + 1) ((st ++ [x]).map DV.w ++ g)) = [.w x] := by
  rw [List.take_append_of_le_length (by simp), List.take_of_length_le (by simp), List.map_append, List.drop_append]; simp
 have n1 : st.length < N := by omega
 have n2 : st.length + 1 ≤ N := by omega
 have n3 : ¬ st.length = N := by omega
 have n4 : st.length ≤ N := by omega
 have l1 : (st.length : Int) ≤ st.length + 1 := by omega
 unfold stF
 generalize (st ++ [x]).map DV.w ++ g = L at *
 simp [F_impl_foldTerm_uint32_L0, hk, hat, hw, C, P, w1, b1, hL, t1, t2, t3, n1, n2, n3, n4, l1]
set_option maxHeartbeats 4000000 in
theorem l_fold2 (n k : Int) (es : List DV) (N : Nat) (g : List DV) (st : List (BitVec 32)) (x y : BitVec 32) (hN : N = (st ++ [x, y]).length + g.length) (hl : st.length ≤ 1000) (c a : Int) (hc : c = 2 ∨ c = 3) (hk : k < n) (hat : atI es k = some (.st [.i c, .i a])) (hw : wr (k + 1) = k + 1) :
  ∃ N' g', N' = (stepG mkW (st ++ [x, y]) (c, a)).length + g'.length ∧ ex lf F_impl_foldTerm_uint32_L0 (stF n k es N g (st ++ [x, y])) = some (.normal, stF n (k + 1) es N' g' (stepG mkW (st ++ [x, y]) (c, a))) := by
 have C := c_impl_statesOfPart c a [x, y] (.inr (.inr ⟨hc, by simp⟩))
 have P := c_impl_partsTaken c
 rw [if_neg (by omega), if_neg (by omega)] at P
 have w1 : wr (st.length : Int) = st.length := wr_id (by omega) (by omega)
 have b1 : st.length + 1 ≤ bound := by unfold bound; omega
 rw [stepG_2 _ _ _ _ _ _ hc]
 simp at C hN
 refine ⟨N, .w y :: g, by simp; omega, ?_⟩
 have hL : ((st ++ [x, y]).map DV.w ++ g).length = N := by rw [hN]; simp; omega
 have t1 : List.take st.length ((st ++ [x, y]).map DV.w ++ g) = st.map .w := by rw [List.map_append, List.append_assoc, List.take_append_of_le_length (by simp), List.take_of_length_le (by simp)]
 have t2 : List.drop (st.length + 1) ((st ++ [x, y]).map DV.w ++ g) = .w y :: g := by
  rw [List.map_append, List.append_assoc, List.drop_append]; simp
 have t3 : List.drop st.length (List.take (st.length + 2) ((st ++ [x, y]).map DV.w ++ g)) = [.w x, .w y] := by
  rw [List.take_append_of_le_length (by simp), List.take_of_length_le (by simp), List.map_append, List.drop_append]; simp
 have n1 : st.length < N := by omega
 have n2 : st.length + 1 ≤ N := by omega
 have n3 : ¬ st.length = N := by omega
 have n4 : st.length ≤ N := by omega
 have n5 : st.length + 2 ≤ N := by omega
 have l1 : (st.length : Int) ≤ st.length + 2 := by omega
 have tn : ((st.length : Int) + 2).toNat = st.length + 2 := by omega
 unfold stF
 generalize (st ++ [x, y]).map DV.w ++ g = L at *
 simp [F_impl_foldTerm_uint32_L0, hk, hat, hw, C, P, w1, b1, hL, t1, t2, t3, n1, n2, n3, n4, n5, l1, tn]
theorem l_fold (m n : Int) (hm : m ≤ 5) (hb : n < 1000000) (es : List DV) : ∀ (rest : List T) (k p q : Int) (st : List (BitVec 32)) (N : Nat) (g : List DV), N = st.length + g.length → 0 ≤ k → k + rest.length = n → es.drop k.toNat = rest.map e2 → (st.length : Int) = p → runM m p rest = some q → st.length + rest.length ≤ 1000 →
  ∃ N' g', N' = (rest.foldl (stepG mkW) st).length + g'.length ∧ ex lf F_impl_foldTerm_uint32_W0 (stF n k es N g st) = some (.exit 0, stF n n es N' g' (rest.foldl (stepG mkW) st))
 | [], k, p, q, st, N, g, hN, h0, hn, hd, hp, hr, hl => by
  refine ⟨N, g, hN, ?_⟩
  rw [w_impl_foldTerm_uint32_0]
  have hk : k = n := by simpa using hn
  subst hk
  unfold stF
  simp [F_impl_foldTerm_uint32_L0]
 | t :: rest, k, p, q, st, N, g, hN, h0, hn, hd, hp, hr, hl => by
  obtain ⟨s1, s2, s3, s4, s5, s6⟩ := stp (es := es) (xs := rest.map e2) (x := e2 t) (k := k) (n := n) h0 (by simpa using hn) (by omega) (by simpa using hd)
  simp only [List.length_cons] at hl
  have hmk := hr
  simp only [runM] at hr
  cases hm' : mkS m p t with
  | none => rw [hm'] at hr; cases hr
  | some p1 =>
   rw [hm'] at hr
   simp only at hr
   obtain ⟨c, a⟩ := t
   simp only [e2] at s2
   have go : (∃ N1 g1, N1 = (stepG mkW st (c, a)).length + g1.length ∧ ex lf F_impl_foldTerm_uint32_L0 (stF n k es N g st) = some (.normal, stF n (k + 1) es N1 g1 (stepG mkW st (c, a)))) → ((stepG mkW st (c, a)).length : Int) = p1 → (stepG mkW st (c, a)).length ≤ st.length + 1 →
     ∃ N' g', N' = (((c, a) :: rest).foldl (stepG mkW) st).length + g'.length ∧ ex lf F_impl_foldTerm_uint32_W0 (stF n k es N g st) = some (.exit 0, stF n n es N' g' (((c, a) :: rest).foldl (stepG mkW) st)) := by
    rintro ⟨N1, g1, hN1, h1⟩ h2 h3
    obtain ⟨N', g', q1, q2⟩ := l_fold m n hm hb es rest (k + 1) p1 q (stepG mkW st (c, a)) N1 g1 hN1 s4 (by simpa using s5) s6 h2 hr (by omega)
    refine ⟨N', g', q1, ?_⟩
    rw [w_impl_foldTerm_uint32_0, h1]
    exact q2
   unfold mkS at hm'
   simp only at hm'
   split at hm'
   ·rename_i hc
    subst hc
    split at hm'
    ·rename_i ha
     injection hm' with hm'
     exact go (l_fold0 n k es N g st hN (by omega) a ha.1 (by omega) s1 s2 s3) (by rw [stepG_0]; simp; omega) (by rw [stepG_0]; simp)
    ·cases hm'
   ·split at hm'
    ·rename_i _ hc
     subst hc
     split at hm'
     ·rename_i ha
      injection hm' with hm'
      obtain ⟨r, x, rfl⟩ := last1 (l := st) (by omega)
      have hl' := hl
      simp only [List.length_append, List.length_singleton] at hl hp
      exact go (l_fold1 n k es N g r x hN (by omega) a s1 s2 s3) (by rw [stepG_1]; simp; omega) (by rw [stepG_1]; simp)
     ·cases hm'
    ·split at hm'
     ·rename_i _ _ hc
      split at hm'
      ·rename_i ha
       injection hm' with hm'
       obtain ⟨r, x, y, rfl⟩ := last2 (l := st) (by omega)
       simp only [List.length_append, List.length_cons, List.length_nil] at hl hp
       exact go (l_fold2 n k es N g r x y hN (by omega) c a hc s1 s2 s3) (by rw [stepG_2 _ _ _ _ _ _ hc]; simp; omega) (by rw [stepG_2 _ _ _ _ _ _ hc]; simp)
      ·cases hm'
     ·cases hm'
theorem c_impl_trueStates {m : Int} {ts : List T} (h : tmOk m ts = true) : call lf n_impl_trueStates [.sl 0 (ts.map e2)] = some (.w (tsW ts), []) := by
 obtain ⟨h1, h2, h3⟩ := tmOk_iff.1 h
 obtain ⟨x, _, _, hf, _⟩ := tv_tree h
 obtain ⟨N', g', hN', L⟩ := l_fold m ts.length h1.2 (by omega) (ts.map e2) ts 0 0 1 [] 0 [] rfl (Int.le_refl _) (by simp) (by simp) rfl h3 (by simp; omega)
 rw [hf] at L hN'
 have C : call lf n_impl_foldTerm_uint32 [.sl 0 (ts.map e2), .fn n_impl_statesOfPart []] = some (.w (tsW ts), []) := by
  rw [call_k lf n_impl_foldTerm_uint32 _ (F := F_impl_foldTerm_uint32) rfl rfl]
  unfold stF at L
  simp at L hN'
  have hL : g'.length + 1 = N' := by omega
  have n1 : 1 ≤ N' := by omega
  simp [F_impl_foldTerm_uint32, L, hL, n1]
 rw [call_k lf n_impl_trueStates _ (F := F_impl_trueStates) rfl rfl]
 simp [F_impl_trueStates, C]
end
section
attribute [-simp] DV.cells
attribute [local simp] cells_st cells_sl cells_i cells_y cells_b cells_s cells_w
attribute [-simp] sliceD
def bI (b : Bool) : Int := if b then 1 else 0
end
section
attribute [-simp] DV.cells sliceD
attribute [local simp] cells_st cells_sl cells_i cells_y cells_b cells_s cells_w
def tabN (f : Nat → Bool) : Nat → Nat
 | 0 => 0
 | k + 1 => tabN f k ||| (if f k then 2 ^ k else 0)
theorem tabN_lt (f : Nat → Bool) : ∀ k, tabN f k < 2 ^ k
 | 0 => by simp [tabN]
 | k + 1 => by
  simp only [tabN]
  have h := tabN_lt f k
  refine Nat.or_lt_two_pow ?_ ?_
  ·rw [Nat.pow_succ]; omega
  ·split
   ·rw [Nat.pow_succ]; have := Nat.pow_pos (n := k) (show 0 < 2 by omega); omega
   ·exact Nat.pow_pos (by omega)
theorem tabN_bit (f : Nat → Bool) (s : Nat) : ∀ k, (tabN f k).testBit s = (decide (s < k) && f s)
 | 0 => by simp [tabN]
 | k + 1 => by
  simp only [tabN, Nat.testBit_or, tabN_bit f s k]
  by_cases h : s = k
  ·subst h
   cases f s <;> simp
  ·have e : (if f k then 2 ^ k else 0).testBit s = false := by
    split
    ·rw [Nat.testBit_two_pow]; simp; omega
    ·simp
   rw [e]
   by_cases h1 : s < k
   ·simp [h1, show s < k + 1 by omega]
   ·simp [h1, show ¬ s < k + 1 by omega]
theorem orI_nat {a b : Nat} (ha : a < 2 ^ 62) (hb : b < 2 ^ 62) : orI (a : Int) (b : Int) = ((a ||| b : Nat) : Int) := by
 have hab : a ||| b < 2 ^ 62 := Nat.or_lt_two_pow ha hb
 unfold orI
 have e : (BitVec.ofInt 64 (a : Int) ||| BitVec.ofInt 64 (b : Int)).toNat = a ||| b := by
  rw [BitVec.toNat_or, BitVec.ofInt_natCast, BitVec.ofInt_natCast, BitVec.toNat_ofNat, BitVec.toNat_ofNat, Nat.mod_eq_of_lt (by omega), Nat.mod_eq_of_lt (by omega)]
 rw [e]
 exact wr_id (by omega) (by omega)
theorem bit_bI {a s : Nat} (hs : s ≤ 60) : (shrI (a : Int) (s : Int)).tmod 2 = bI (a.testBit s) := by
 rw [shr1 (by omega) (by omega), tmod2 (Int.ediv_nonneg (by omega) (Int.le_of_lt (Int.pow_pos (by omega))))]
 unfold bI
 rw [Nat.testBit_eq_decide_div_mod_eq, Int.toNat_natCast]
 have : (a : Int) / 2 ^ s % 2 = ((a / 2 ^ s % 2 : Nat) : Int) := by simp
 rw [this]
 by_cases h : a / 2 ^ s % 2 = 1
 ·simp [h]
 ·have : a / 2 ^ s % 2 = 0 := by omega
  simp [this]
theorem pow5 {m : Int} (h1 : 1 ≤ m) (h5 : m ≤ 5) : 2 ≤ 2 ^ m.toNat ∧ 2 ^ m.toNat ≤ 32 ∧ ((2 ^ m.toNat : Nat) : Int) = 2 ^ m.toNat := by
 have c : m = 1 ∨ m = 2 ∨ m = 3 ∨ m = 4 ∨ m = 5 := by omega
 rcases c with rfl | rfl | rfl | rfl | rfl <;> decide
end
section
attribute [-simp] DV.cells sliceD
attribute [local simp] cells_st cells_sl cells_i cells_y cells_b cells_s cells_w
/-- 1 if f holds wherever g does below N, 0 if nowhere, else -1 -/
def fo (f g : Nat → Bool) (N : Nat) : Int := if allTo (fun s => !g s || f s) N then 1 else if allTo (fun s => !g s || !f s) N then 0 else -1
theorem fo_1 {f g : Nat → Bool} {N : Nat} : fo f g N = 1 ↔ ∀ s, s < N → g s = true → f s = true := by
 unfold fo
 constructor
 ·intro h
  split at h
  ·rename_i ha
   intro s hs hg
   have := allTo_iff.1 ha s hs
   simpa [hg] using this
  ·split at h <;> cases h
 ·intro h
  rw [if_pos (allTo_iff.2 fun s hs => by
   cases hg : g s with
   | false => rfl
   | true => simp [h s hs hg])]
theorem fo_0 {f g : Nat → Bool} {N : Nat} (hne : ∃ s, s < N ∧ g s = true) : fo f g N = 0 ↔ ∀ s, s < N → g s = true → f s = false := by
 obtain ⟨s0, h0, g0⟩ := hne
 unfold fo
 constructor
 ·intro h
  split at h
  ·cases h
  ·split at h
   ·rename_i ha
    intro s hs hg
    have := allTo_iff.1 ha s hs
    simpa [hg] using this
   ·cases h
 ·intro h
  rw [if_neg, if_pos (allTo_iff.2 fun s hs => by
   cases hg : g s with
   | false => rfl
   | true => simp [h s hs hg])]
  intro ha
  have := allTo_iff.1 ha s0 h0
  simp [g0, h s0 h0 g0] at this
theorem fo_or (f g : Nat → Bool) (N : Nat) : fo f g N = 1 ∨ fo f g N = 0 ∨ fo f g N = -1 := by
 unfold fo
 split
 ·simp
 ·split <;> simp
theorem fo_b {f g : Nat → Bool} {N : Nat} (hne : ∃ s, s < N ∧ g s = true) (b : Bool) : fo f g N = bI b ↔ ∀ s, s < N → g s = true → f s = b := by
 cases b with
 | true => exact fo_1
 | false => exact fo_0 hne
/-- What the states say that agree. -/
def agB (ks : List Int) (s : Nat) : Bool := ag ks (s : Int)
theorem agB_cons (k : Int) (r : List Int) (s : Nat) : agB (k :: r) s = ((k == -1 || k == bI (s.testBit 0)) && agB r (s / 2)) := by
 unfold agB
 simp only [ag]
 have e1 : (s : Int) % 2 = bI (s.testBit 0) := by
  unfold bI
  rw [Nat.testBit_zero]
  by_cases h : s % 2 = 1
  ·simp [h]; omega
  ·simp [h]; omega
 have e2 : (s : Int) / 2 = ((s / 2 : Nat) : Int) := by omega
 rw [e1, e2]
theorem agB_some : ∀ {ks : List Int}, ks.all kOk = true → ∃ s, s < 2 ^ ks.length ∧ agB ks s = true
 | [], _ => ⟨0, by simp, rfl⟩
 | k :: r, h => by
  simp only [List.all_cons, Bool.and_eq_true] at h
  obtain ⟨s, h1, h2⟩ := agB_some h.2
  have hk : -1 ≤ k ∧ k ≤ 1 := by simpa [kOk] using h.1
  have c : k = -1 ∨ k = 0 ∨ k = 1 := by omega
  have key : ∀ b : Bool, k = -1 ∨ k = bI b → ∃ s, s < 2 ^ (k :: r).length ∧ agB (k :: r) s = true := by
   intro b hb
   refine ⟨2 * s + (if b then 1 else 0), ?_, ?_⟩
   ·rw [List.length_cons, Nat.pow_succ]; cases b <;> simp <;> omega
   ·rw [agB_cons]
    have e1 : (2 * s + (if b then 1 else 0)) / 2 = s := by cases b <;> simp <;> omega
    have e2 : (2 * s + (if b then 1 else 0)).testBit 0 = b := by rw [Nat.testBit_zero]; cases b <;> simp <;> omega
    rw [e1, e2, h2]
    rcases hb with rfl | rfl <;> simp
  rcases c with rfl | rfl | rfl
  ·exact key true (.inl rfl)
  ·exact key false (.inr rfl)
  ·exact key true (.inr rfl)
end
section
attribute [-simp] DV.cells sliceD
attribute [local simp] cells_st cells_sl cells_i cells_y cells_b cells_s cells_w
/-- what is known of a term by what is known of its tests -/
def foT (m : Int) (ts : List T) (ks : List Int) : Int := fo (tv ts) (agB ks) (2 ^ m.toNat)
theorem ks_some {m : Int} {ks : List Int} (h : ksOk m ks = true) : ∃ s, s < 2 ^ m.toNat ∧ agB ks s = true := by
 obtain ⟨h1, h2, h3⟩ := ksOk_iff.1 h
 obtain ⟨s, q1, q2⟩ := agB_some h3
 exact ⟨s, by rw [show m.toNat = ks.length by omega]; exact q1, q2⟩
def told (m : Nat) (st so : Nat) : List Int := (List.range m).map fun k => if so.testBit k then bI (st.testBit k) else -1
theorem told_len (m st so : Nat) : (told m st so).length = m := by simp [told]
theorem bI_eq1 (b : Bool) : (bI b == 1) = b := by cases b <;> rfl
/-- proof: the value is forced by what is told -/
def prf (m : Int) (ts : List T) (st so : Nat) : Bool := foT m ts (told m.toNat st so) != -1
end
section
attribute [-simp] DV.cells sliceD
attribute [local simp] cells_st cells_sl cells_i cells_y cells_b cells_s cells_w
def agW : List Int → Nat → BitVec 32 → BitVec 32
 | [], _, w => w
 | k :: r, i, w => agW r (i + 1) (if k = 0 then w &&& ~~~(yesW i) else if k = 1 then w &&& yesW i else w)
theorem agW_bit : ∀ {ks : List Int} {i : Nat} {w : BitVec 32} {s : Nat}, ks.all kOk = true → i + ks.length ≤ 5 → s < 32 → (agW ks i w).getLsbD s = (w.getLsbD s && agB ks (s / 2 ^ i))
 | [], i, w, s, _, _, _ => by simp [agW, agB, ag]
 | k :: r, i, w, s, h, hi, hs => by
  simp only [List.all_cons, Bool.and_eq_true] at h
  simp only [List.length_cons] at hi
  have hk : -1 ≤ k ∧ k ≤ 1 := by simpa [kOk] using h.1
  simp only [agW]
  rw [agW_bit h.2 (by omega) hs, agB_cons]
  have e1 : s / 2 ^ (i + 1) = s / 2 ^ i / 2 := by rw [Nat.pow_succ, Nat.div_div_eq_div_mul]
  have e2 : (s / 2 ^ i).testBit 0 = s.testBit i := by rw [Nat.testBit_div_two_pow]; simp
  have y := yes_bit ⟨i, by omega⟩ ⟨s, hs⟩
  simp only at y
  rw [e1, e2]
  have c : k = -1 ∨ k = 0 ∨ k = 1 := by omega
  rcases c with rfl | rfl | rfl
  ·simp
  ·rw [if_pos rfl, BitVec.getLsbD_and, BitVec.getLsbD_not, y]
   cases w.getLsbD s <;> cases s.testBit i <;> simp [bI, hs]
  ·rw [if_neg (by omega), if_pos rfl, BitVec.getLsbD_and, y]
   cases w.getLsbD s <;> cases s.testBit i <;> simp [bI]
theorem yes_at {i : Nat} (h : i < 5) : ([DV.w 2863311530#32, DV.w 3435973836#32, DV.w 4042322160#32, DV.w 4278255360#32, DV.w 4294901760#32])[i]? = some (.w (yesW i)) := by
 have c : i = 0 ∨ i = 1 ∨ i = 2 ∨ i = 3 ∨ i = 4 := by omega
 rcases c with rfl | rfl | rfl | rfl | rfl <;> rfl
/-- the states that say so of a test -/
def syI (k : Nat) (b : Int) : BitVec 32 := if b = 1 then yesW k else ~~~ yesW k
theorem c_impl_statesSaying {k : Nat} (hk : k < 5) (b : Int) : call lf n_impl_statesSaying [.i k, .i b] = some (.w (syI k b), []) := by
 have y := yes_at hk
 have k5 : (k : Int) < 5 := by omega
 rw [call_k lf n_impl_statesSaying _ (F := F_impl_statesSaying) rfl rfl]
 unfold syI
 by_cases h : b = 1
 ·have e : (b == 1) = true := by simpa using h
  simp [F_impl_statesSaying, gEnv_2, y, k5, e, h]
 ·have e : (b == 1) = false := by simpa using h
  simp [F_impl_statesSaying, gEnv_2, y, k5, e, h]
set_option maxHeartbeats 4000000 in
theorem ones_bit {s : Nat} (hs : s < 32) : (4294967295#32).getLsbD s = true := by
 have : ∀ s : _root_.Fin 32, (4294967295#32).getLsbD s.val = true := by decide +kernel
 exact this ⟨s, hs⟩
theorem agB_mod : ∀ {ks : List Int} (s : Nat), agB ks (s % 2 ^ ks.length) = agB ks s
 | [], s => rfl
 | k :: r, s => by
  rw [agB_cons, agB_cons, List.length_cons]
  have e1 : (s % 2 ^ (r.length + 1)).testBit 0 = s.testBit 0 := by rw [Nat.testBit_mod_two_pow]; simp
  have e2 : s % 2 ^ (r.length + 1) / 2 = (s / 2) % 2 ^ r.length := by rw [Nat.pow_succ, Nat.mul_comm, Nat.mod_mul_right_div_self]
  rw [e1, e2, agB_mod (ks := r) (s / 2)]
theorem tv_mod {m : Int} {ts : List T} (h : tmOk m ts = true) {s : Nat} (hs : s < 32) : tv ts (s % 2 ^ m.toNat) = tv ts s := by
 obtain ⟨h1, _, _⟩ := tmOk_iff.1 h
 obtain ⟨x, hb, _, _, htv⟩ := tv_tree h
 have hle : s % 2 ^ m.toNat < 32 := Nat.lt_of_le_of_lt (Nat.mod_le _ _) hs
 rw [htv _ hs, htv _ hle]
 refine ev_congr (m := m) (fun a ha => ?_) hb
 rw [Nat.testBit_mod_two_pow]
 have : a < m.toNat := by omega
 simp [this]
theorem and_eq_iff (A W : BitVec 32) : (W &&& A = A) ↔ ∀ s, s < 32 → A.getLsbD s = true → W.getLsbD s = true := by
 constructor
 ·intro h s hs ha
  have := congrArg (fun v => BitVec.getLsbD v s) h
  simp only [BitVec.getLsbD_and, ha, Bool.and_true] at this
  exact this
 ·intro h
  apply BitVec.eq_of_getLsbD_eq
  intro s hs
  rw [BitVec.getLsbD_and]
  cases ha : A.getLsbD s with
  | false => simp
  | true => simp [h s hs ha]
theorem and_zero_iff (A W : BitVec 32) : (W &&& A = 0#32) ↔ ∀ s, s < 32 → A.getLsbD s = true → W.getLsbD s = false := by
 constructor
 ·intro h s hs ha
  have := congrArg (fun v => BitVec.getLsbD v s) h
  simp only [BitVec.getLsbD_and, ha, Bool.and_true, BitVec.getLsbD_zero] at this
  exact this
 ·intro h
  apply BitVec.eq_of_getLsbD_eq
  intro s hs
  rw [BitVec.getLsbD_and, BitVec.getLsbD_zero]
  cases ha : A.getLsbD s with
  | false => simp
  | true => simp [h s hs ha]
theorem ag_bits {m : Int} {ts : List T} {ks : List Int} (h1 : tmOk m ts = true) (h2 : ksOk m ks = true) (b : Bool) :
  (∀ s, s < 32 → (agW ks 0 (4294967295#32)).getLsbD s = true → (tsW ts).getLsbD s = b) ↔ foT m ts ks = bI b := by
 obtain ⟨h3, _, _⟩ := tmOk_iff.1 h1
 obtain ⟨_, k2, k3⟩ := ksOk_iff.1 h2
 obtain ⟨p1, p2, p3⟩ := pow5 h3.1 h3.2
 have hl : m.toNat = ks.length := by omega
 have key : ∀ s, s < 32 → (agW ks 0 (4294967295#32)).getLsbD s = agB ks s := fun s hs => by
  rw [agW_bit k3 (by omega) hs, ones_bit hs]; simp
 unfold foT
 rw [fo_b (ks_some h2)]
 constructor
 ·intro h s hs hg
  exact h s (by omega) (by rw [key s (by omega)]; exact hg)
 ·intro h s hs hg
  rw [key s hs, ← agB_mod, ← hl] at hg
  have := h (s % 2 ^ m.toNat) (Nat.mod_lt _ (by omega)) hg
  rw [tv_mod h1 hs] at this
  exact this
/-- the value among some states -/
def vaW (v w : BitVec 32) : Int := if v &&& w == w then 1 else if v &&& w == 0#32 then 0 else -1
theorem c_impl_valueAmong (v w : BitVec 32) : call lf n_impl_valueAmong [.w v, .w w] = some (.i (vaW v w), []) := by
 rw [call_k lf n_impl_valueAmong _ (F := F_impl_valueAmong) rfl rfl]
 unfold vaW
 cases h1 : (v &&& w == w) with
 | true => simp [F_impl_valueAmong, h1]
 | false =>
  cases h2 : (v &&& w == 0#32) with
  | true => simp [F_impl_valueAmong, h1, h2]
  | false => simp [F_impl_valueAmong, h1, h2]
theorem vaW_foT {m : Int} {ts : List T} {ks : List Int} (h1 : tmOk m ts = true) (h2 : ksOk m ks = true) : vaW (tsW ts) (agW ks 0 (4294967295#32)) = foT m ts ks := by
 have a1 := ag_bits h1 h2 true
 have a0 := ag_bits h1 h2 false
 rw [← and_eq_iff] at a1
 rw [← and_zero_iff] at a0
 unfold vaW
 generalize agW ks 0 (4294967295#32) = A at *
 rcases fo_or (tv ts) (agB ks) (2 ^ m.toNat) with h | h | h
 ·have e : foT m ts ks = 1 := h
  rw [if_pos (by rw [a1.2 e]; exact beq_self_eq_true _), e]
 ·have e : foT m ts ks = 0 := h
  have q := a0.2 e
  rw [if_neg, if_pos (by rw [q]; exact beq_self_eq_true _), e]
  intro hq
  have := a1.1 (by simpa using hq)
  rw [e] at this; cases this
 ·have e : foT m ts ks = -1 := h
  rw [if_neg, if_neg, e]
  ·intro hq
   have := a0.1 (by simpa using hq)
   rw [e] at this; cases this
  ·intro hq
   have := a1.1 (by simpa using hq)
   rw [e] at this; cases this
end
section
attribute [-simp] DV.cells sliceD
attribute [local simp] cells_st cells_sl cells_i cells_y cells_b cells_s cells_w
theorem div_bI (a s : Nat) : (a : Int) / 2 ^ s % 2 = bI (a.testBit s) := by
 unfold bI
 rw [Nat.testBit_eq_decide_div_mod_eq]
 have : (a : Int) / 2 ^ s % 2 = ((a / 2 ^ s % 2 : Nat) : Int) := by simp
 rw [this]
 by_cases h : a / 2 ^ s % 2 = 1
 ·simp [h]
 ·have : a / 2 ^ s % 2 = 0 := by omega
  simp [this]
theorem c_impl_hasTest (so k : Nat) (hk : k ≤ 40) : call lf n_impl_hasTest [.i so, .i k] = some (.b (so.testBit k), []) := by
 rw [call_k lf n_impl_hasTest _ (F := F_impl_hasTest) rfl rfl]
 have ni : ¬ (k : Int) < 0 := by omega
 have e : andI (shrI (so : Int) (k : Int)) 1 = bI (so.testBit k) := by
  rw [bit_and, shr1 (by omega) (by omega), Int.toNat_natCast, div_bI]
 simp [F_impl_hasTest, ni, e, bI_eq1]
end
section
attribute [-simp] DV.cells
attribute [local simp] cells_st cells_sl cells_i cells_y cells_b cells_s
theorem or_lt {a b m : Int} (h1 : 1 ≤ m) (h5 : m ≤ 5) (a0 : 0 ≤ a) (a1 : a < 2 ^ m.toNat) (b0 : 0 ≤ b) (b1 : b < 2 ^ m.toNat) : 0 ≤ orI a b ∧ orI a b < 2 ^ m.toNat ∧ (orI a b).toNat = a.toNat ||| b.toNat := by
 obtain ⟨x, rfl⟩ := Int.eq_ofNat_of_zero_le a0
 obtain ⟨y, rfl⟩ := Int.eq_ofNat_of_zero_le b0
 obtain ⟨p1, p2, p3⟩ := pow5 h1 h5
 have hx : x < 2 ^ m.toNat := by omega
 have hy : y < 2 ^ m.toNat := by omega
 have := Nat.or_lt_two_pow hx hy
 rw [orI_nat (by omega) (by omega)]
 exact ⟨by omega, by omega, rfl⟩
end
section
attribute [-simp] DV.cells
attribute [local simp] cells_st cells_sl cells_i cells_y cells_b cells_s
def dT (t : T) : T := if t.1 = 2 then (3, 0) else if t.1 = 3 then (2, 0) else t
end
section
theorem c_alive : call lf n_laws_alive [] = some (.b true, []) := by
 rw [call_k lf n_laws_alive _ (F := F_laws_alive) rfl rfl]
 have a := c_impl_TestsOk [(1, 1)] (by simp)
 have b := c_impl_TestsOk [(0, 0)] (by simp)
 have a1 : tsOk [(1, 1)] = true := by decide
 have b1 : tsOk [(0, 0)] = false := by decide
 rw [a1] at a
 rw [b1] at b
 simp [e2] at a b
 simp [F_laws_alive, a, b]
end
section
theorem fold_flt {P : Type} (mk : T → List P → P) : ∀ (x : Tm) (st : List P), (flt x).foldl (stepG mk) st = st ++ [valG mk x]
 | .tst a, st => by simp [flt, valG, stepG_0]
 | .neg x, st => by
  simp only [flt, List.foldl_append, fold_flt mk x, List.foldl_cons, List.foldl_nil]
  rw [stepG_1]; rfl
 | .and x y, st => by
  simp only [flt, List.foldl_append, fold_flt mk x, fold_flt mk y, List.foldl_cons, List.foldl_nil, List.append_assoc, List.cons_append, List.nil_append]
  rw [stepG_2 _ _ _ _ _ _ (.inl rfl)]; rfl
 | .or x y, st => by
  simp only [flt, List.foldl_append, fold_flt mk x, fold_flt mk y, List.foldl_cons, List.foldl_nil, List.append_assoc, List.cons_append, List.nil_append]
  rw [stepG_2 _ _ _ _ _ _ (.inr rfl)]; rfl
theorem tv_flt {m : Int} (hm : m ≤ 5) {x : Tm} (hb : tb m x) {s : Nat} (hs : s < 32) : tv (flt x) s = ev s x := by
 unfold tv tsW
 rw [fold_flt]
 exact val_bit hm hb hs
end
section
theorem agB_iff : ∀ {ks : List Int} {s : Nat}, agB ks s = true ↔ ∀ k v, ks[k]? = some v → v = -1 ∨ v = bI (s.testBit k)
 | [], s => by simp [agB, ag]
 | a :: r, s => by
  rw [agB_cons]
  simp only [Bool.and_eq_true, Bool.or_eq_true, beq_iff_eq]
  rw [agB_iff (ks := r)]
  constructor
  ·rintro ⟨h1, h2⟩ k v hv
   cases k with
   | zero => simp at hv; subst hv; exact h1
   | succ k => simp at hv; have := h2 k v hv; rw [Nat.testBit_succ]; exact this
  ·intro h
   refine ⟨h 0 a rfl, fun k v hv => ?_⟩
   have := h (k + 1) v (by simpa using hv)
   rw [Nat.testBit_succ] at this
   exact this
theorem bI_inj {a b : Bool} : bI a = bI b ↔ a = b := by cases a <;> cases b <;> simp [bI]
end
section
attribute [-simp] DV.cells
attribute [local simp] cells_st cells_sl cells_i cells_y cells_b cells_s cells_w
theorem or_fin : ∀ (s : _root_.Fin 32) (k : _root_.Fin 5), orI (s.val : Int) ((2 : Int) ^ k.val) = ((s.val ||| 2 ^ k.val : Nat) : Int) := by decide +kernel
theorem or_nat {s k : Nat} (hs : s < 32) (hk : k < 5) : orI (s : Int) ((2 : Int) ^ k) = ((s ||| 2 ^ k : Nat) : Int) := or_fin ⟨s, hs⟩ ⟨k, hk⟩
end
section
attribute [-simp] DV.cells
attribute [local simp] cells_st cells_sl cells_i cells_y cells_b cells_s cells_w
theorem sumTo_add (f g : Nat → Int) : ∀ n, sumTo (fun k => f k + g k) n = sumTo f n + sumTo g n
 | 0 => rfl
 | n + 1 => by simp only [sumTo, sumTo_add f g n]; omega
end
section
/-- each of the tests once, from those on that some tests are -/
def orS (m : Int) : Nat → List Int → Bool
 | _, [] => true
 | so, a :: r => decide (0 ≤ a ∧ a < m) && !so.testBit a.toNat && orS m (so ||| 2 ^ a.toNat) r
def orOk (m : Int) (os : List Int) : Bool := nOk m && decide ((os.length : Int) = m) && orS m 0 os
def setO : Nat → List Int → Nat
 | so, [] => so
 | so, a :: r => setO (so ||| 2 ^ a.toNat) r
theorem orS_cons {m : Int} {so : Nat} {a : Int} {r : List Int} : orS m so (a :: r) = true ↔ (0 ≤ a ∧ a < m) ∧ so.testBit a.toNat = false ∧ orS m (so ||| 2 ^ a.toNat) r = true := by
 simp [orS, and_assoc]
theorem orOk_iff {m : Int} {os : List Int} : orOk m os = true ↔ (1 ≤ m ∧ m ≤ 5) ∧ (os.length : Int) = m ∧ orS m 0 os = true := by
 rw [orOk, Bool.and_eq_true, Bool.and_eq_true, nOk_iff, decide_eq_true_eq, and_assoc]
theorem setO_app : ∀ (so : Nat) (p q : List Int), setO so (p ++ q) = setO (setO so p) q
 | _, [], _ => rfl
 | so, a :: r, q => setO_app (so ||| 2 ^ a.toNat) r q
theorem orS_app {m : Int} : ∀ (so : Nat) (p q : List Int), orS m so (p ++ q) = (orS m so p && orS m (setO so p) q)
 | _, [], q => by simp [orS, setO]
 | so, a :: r, q => by simp only [List.cons_append, orS, setO, orS_app (so ||| 2 ^ a.toNat) r q, Bool.and_assoc]
theorem or_bit (so a k : Nat) : (so ||| 2 ^ a).testBit k = (so.testBit k || decide (a = k)) := by
 rw [Nat.testBit_or, Nat.testBit_two_pow]
theorem or_lt2 {m so a : Nat} (h : so < 2 ^ m) (ha : a < m) : so ||| 2 ^ a < 2 ^ m := Nat.or_lt_two_pow h (Nat.pow_lt_pow_right (by omega) ha)
theorem setO_bit : ∀ {os : List Int} {so k : Nat}, (∀ o ∈ os, 0 ≤ o) → ((setO so os).testBit k = true ↔ so.testBit k = true ∨ (k : Int) ∈ os)
 | [], _, _, _ => by simp [setO]
 | a :: r, so, k, h => by
  have ha := h a (by simp)
  rw [setO, setO_bit (os := r) (fun o ho => h o (by simp [ho])), or_bit]
  simp only [Bool.or_eq_true, decide_eq_true_eq, List.mem_cons]
  have : a.toNat = k ↔ (k : Int) = a := by omega
  rw [this, or_assoc]
/-- how many tests are not among some -/
def uc (so : Nat) : Nat → Nat
 | 0 => 0
 | i + 1 => uc so i + if so.testBit i then 0 else 1
theorem uc_zero : ∀ n, uc 0 n = n
 | 0 => rfl
 | n + 1 => by simp [uc, uc_zero n]
theorem uc_congr {a b : Nat} : ∀ {n}, (∀ k, k < n → a.testBit k = b.testBit k) → uc a n = uc b n
 | 0, _ => rfl
 | n + 1, h => by simp only [uc]; rw [uc_congr (fun k hk => h k (by omega)), h n (by omega)]
theorem uc_or {so a : Nat} : ∀ {n}, a < n → so.testBit a = false → uc (so ||| 2 ^ a) n + 1 = uc so n
 | 0, h, _ => by omega
 | n + 1, h, hb => by
  simp only [uc]
  by_cases e : a = n
  ·subst e
   rw [uc_congr (a := so ||| 2 ^ a) (b := so) (fun k hk => by rw [or_bit, decide_eq_false (by omega), Bool.or_false]), or_bit, hb]
   simp
  ·have := uc_or (so := so) (a := a) (n := n) (by omega) hb
   rw [or_bit, decide_eq_false e, Bool.or_false]
   omega
theorem uc_all {so : Nat} : ∀ {n}, uc so n = 0 → ∀ k, k < n → so.testBit k = true
 | 0, _, k, hk => by omega
 | n + 1, h, k, hk => by
  simp only [uc] at h
  rcases Nat.lt_succ_iff_lt_or_eq.1 hk with q | rfl
  ·exact uc_all (n := n) (by omega) k q
  ·cases hb : so.testBit k with
   | true => rfl
   | false => rw [hb] at h; simp at h
theorem uc_setO {m : Int} (hm : 0 ≤ m) : ∀ {os : List Int} {so : Nat}, orS m so os = true → uc (setO so os) m.toNat + os.length = uc so m.toNat
 | [], _, _ => by simp [setO]
 | a :: r, so, h => by
  obtain ⟨h1, h2, h3⟩ := orS_cons.1 h
  have i := uc_setO hm (os := r) h3
  have u := uc_or (so := so) (a := a.toNat) (n := m.toNat) (by omega) h2
  simp only [setO, List.length_cons]; omega
theorem set_all {m : Int} {os : List Int} (h : orOk m os = true) : ∀ k, k < m.toNat → (setO 0 os).testBit k = true := by
 obtain ⟨h1, h2, h3⟩ := orOk_iff.1 h
 have u := uc_setO (by omega) h3
 rw [uc_zero] at u
 exact uc_all (by omega)
def gN (m : Int) (t : List T) (s : Nat) : Nat → List Int → Nat
 | _, [] => 0
 | so, a :: r => if prf m t s so then 0 else 1 + gN m t s (so ||| 2 ^ a.toNat) r
def cA (us : List T) (a : Nat) : Int := (us.getD a (0, 0)).1
/-- what some tests cost -/
def cB (us : List T) (so : Nat) : Nat → Int
 | 0 => 0
 | k + 1 => cB us so k + if so.testBit k then cA us k else 0
theorem cB_congr {us : List T} {a b : Nat} : ∀ {n}, (∀ k, k < n → a.testBit k = b.testBit k) → cB us a n = cB us b n
 | 0, _ => rfl
 | n + 1, h => by simp only [cB]; rw [cB_congr (fun k hk => h k (by omega)), h n (by omega)]
theorem cB_or {us : List T} {so a : Nat} : ∀ {n}, a < n → so.testBit a = false → cB us (so ||| 2 ^ a) n = cB us so n + cA us a
 | 0, h, _ => by omega
 | n + 1, h, hb => by
  simp only [cB]
  by_cases e : a = n
  ·subst e
   rw [cB_congr (a := so ||| 2 ^ a) (b := so) (fun k hk => by rw [or_bit, decide_eq_false (by omega), Bool.or_false]), or_bit, hb]
   simp
  ·have := cB_or (us := us) (so := so) (a := a) (n := n) (by omega) hb
   rw [or_bit, decide_eq_false e, Bool.or_false]
   omega
theorem cA_nn {us : List T} (h : us.all tOk = true) (k : Nat) : 0 ≤ cA us k ∧ (k < us.length → 1 ≤ cA us k) ∧ cA us k ≤ 9 := by
 unfold cA
 by_cases hk : k < us.length
 ·have e : us.getD k (0, 0) = us[k] := by simp [List.getD, hk]
  rw [e]
  have := tOk_iff.1 (List.all_eq_true.1 h us[k] (List.getElem_mem hk))
  omega
 ·have e : us.getD k (0, 0) = (0, 0) := by simp [List.getD, List.getElem?_eq_none (by omega : us.length ≤ k)]
  rw [e]; simp; omega
theorem cost_sum : ∀ (us : List T) (n : Nat), cost (us.take n) = sumTo (fun k => cA us k) n
 | us, 0 => by simp [cost, sumTo]
 | us, n + 1 => by
  simp only [sumTo]
  rw [← cost_sum us n]
  by_cases hn : n < us.length
  ·rw [List.take_succ_eq_append_getElem hn, cost_append]
   simp [cost, cA, List.getD, hn]
  ·rw [List.take_of_length_le (by omega), List.take_of_length_le (by omega)]
   simp [cA, List.getD, List.getElem?_eq_none (by omega : us.length ≤ n)]
theorem cB_le {us : List T} (h : us.all tOk = true) (so : Nat) : ∀ n, 0 ≤ cB us so n ∧ cB us so n ≤ sumTo (fun k => cA us k) n
 | 0 => by simp [cB, sumTo]
 | n + 1 => by
  have i := cB_le h so n
  have c := cA_nn h n
  simp only [cB, sumTo]
  split <;> omega
theorem cB_zero (us : List T) : ∀ n, cB us 0 n = 0
 | 0 => rfl
 | n + 1 => by simp [cB, cB_zero us n]
/-- the weight of the states that some tests leave open -/
def owT (us t : List T) (so : Nat) : Int := sumTo (fun s => if prf us.length t s so then 0 else wt us s) (2 ^ us.length)
def cC (us t : List T) : Nat → List Int → Int
 | _, [] => 0
 | so, a :: r => cA us a.toNat * owT us t so + cC us t (so ||| 2 ^ a.toNat) r
end
section
theorem orS_nodup {m : Int} : ∀ {os : List Int} {so : Nat}, orS m so os = true ↔ (∀ o ∈ os, (0 ≤ o ∧ o < m) ∧ so.testBit o.toNat = false) ∧ os.Nodup
 | [], so => by simp [orS]
 | a :: r, so => by
  rw [orS_cons, orS_nodup (os := r), List.nodup_cons]
  constructor
  ·rintro ⟨h1, h2, h3, h4⟩
   refine ⟨fun o ho => ?_, fun hm => ?_, h4⟩
   ·rcases List.mem_cons.1 ho with rfl | ho
    ·exact ⟨h1, h2⟩
    ·obtain ⟨q1, q2⟩ := h3 o ho
     rw [or_bit, Bool.or_eq_false_iff] at q2
     exact ⟨q1, q2.1⟩
   ·have q := (h3 a hm).2
    rw [or_bit] at q; simp at q
  ·rintro ⟨h1, h2, h3⟩
   obtain ⟨a1, a2⟩ := h1 a (by simp)
   refine ⟨a1, a2, fun o ho => ?_, h3⟩
   obtain ⟨q1, q2⟩ := h1 o (by simp [ho])
   refine ⟨q1, ?_⟩
   rw [or_bit, q2, Bool.false_or, decide_eq_false]
   intro e
   have : a = o := by omega
   exact h2 (this ▸ ho)
theorem orS_perm {m : Int} {so : Nat} {p q : List Int} (h : p.Perm q) : orS m so p = orS m so q := by
 rw [Bool.eq_iff_iff, orS_nodup, orS_nodup, h.nodup_iff]
 constructor
 ·exact fun k => ⟨fun o ho => k.1 o (h.mem_iff.2 ho), k.2⟩
 ·exact fun k => ⟨fun o ho => k.1 o (h.mem_iff.1 ho), k.2⟩
theorem orOk_perm {m : Int} {p q : List Int} (h : p.Perm q) : orOk m p = orOk m q := by
 unfold orOk
 rw [orS_perm h, h.length_eq]
def rng (n : Nat) : List Int := (List.range n).map fun (k : Nat) => (k : Int)
theorem rng_len (n : Nat) : (rng n).length = n := by simp [rng]
theorem rng_succ (n : Nat) : rng (n + 1) = rng n ++ [(n : Int)] := by simp [rng, List.range_succ]
theorem mem_rng {n : Nat} {o : Int} : o ∈ rng n ↔ 0 ≤ o ∧ o < n := by
 unfold rng
 rw [List.mem_map]
 constructor
 ·rintro ⟨k, h, rfl⟩; have := List.mem_range.1 h; omega
 ·intro h; exact ⟨o.toNat, List.mem_range.2 (by omega), by omega⟩
theorem rng_ok {m : Int} (h : 1 ≤ m ∧ m ≤ 5) : orOk m (rng m.toNat) = true := by
 rw [orOk_iff, orS_nodup]
 refine ⟨h, by rw [rng_len]; omega, fun o ho => ?_, ?_⟩
 ·have := mem_rng.1 ho
  exact ⟨by omega, by simp⟩
 ·unfold rng
  rw [List.nodup_iff_pairwise_ne, List.pairwise_map]
  exact List.Pairwise.imp (fun {a b} (hab : a ≠ b) h => hab (Int.ofNat_inj.1 h)) (List.nodup_iff_pairwise_ne.1 List.nodup_range)
theorem orOk_len {m : Int} {os : List Int} (h : orOk m os = true) : (os.length : Int) = m := (orOk_iff.1 h).2.1
theorem perm_ok {m : Int} {os : List Int} (h : 1 ≤ m ∧ m ≤ 5) (p : os.Perm (rng m.toNat)) : orOk m os = true := by rw [orOk_perm p]; exact rng_ok h
end
section
def hkn (m : Nat) (ks : List Int) (so : Nat) : Prop := ∀ k, k < m → (ks[k]? = some (-1) ↔ so.testBit k = false)
theorem told_eq {m : Int} {ks : List Int} {so s : Nat} (hk : ksOk m ks = true) (hn : hkn m.toNat ks so) (hg : agB ks s = true) : told m.toNat s so = ks := by
 obtain ⟨h1, h2, h3⟩ := ksOk_iff.1 hk
 apply List.ext_getElem?
 intro k
 by_cases h : k < m.toNat
 ·obtain ⟨v, hv⟩ : ∃ v, ks[k]? = some v := ⟨ks[k]'(by omega), List.getElem?_eq_getElem (by omega)⟩
  have e := hn k h
  rw [hv] at e ⊢
  have a := agB_iff.1 hg k v hv
  have tl : (told m.toNat s so)[k]? = some (if so.testBit k then bI (s.testBit k) else -1) := by simp [told, h]
  rw [tl]
  cases hb : so.testBit k with
  | false =>
   have := e.2 hb
   simpa using this.symm
  | true =>
   rcases a with a | a
   ·subst a
    have := e.1 rfl
    rw [hb] at this; cases this
   ·simp [a]
 ·have tl := told_len m.toNat s so
  rw [List.getElem?_eq_none (by omega), List.getElem?_eq_none (by omega)]
theorem prf_kn {m : Int} {t : List T} {ks : List Int} {so s : Nat} (hk : ksOk m ks = true) (hn : hkn m.toNat ks so) (hg : agB ks s = true) : prf m t s so = (foT m t ks != -1) := by
 unfold prf
 rw [told_eq hk hn hg]
theorem sumTo_zero {f : Nat → Int} : ∀ {n}, (∀ k, k < n → f k = 0) → sumTo f n = 0
 | 0, _ => rfl
 | n + 1, h => by simp only [sumTo]; rw [sumTo_zero (n := n) fun k hk => h k (by omega), h n (by omega)]; rfl
theorem hkn_set {m : Nat} {ks : List Int} {so a : Nat} (hl : ks.length = m) (ha : a < m) (h : hkn m ks so) (b : Bool) : hkn m (ks.set a (bI b)) (so ||| 2 ^ a) := by
 intro k hk
 rw [or_bit]
 by_cases e : k = a
 ·subst e
  rw [List.getElem?_set_self (by omega)]
  cases b <;> simp [bI]
 ·rw [List.getElem?_set_ne (fun q => e q.symm), h k hk, decide_eq_false (fun q => e q.symm), Bool.or_false]
def non (m : Nat) : List Int := List.replicate m (-1)
theorem non_kn (m : Nat) : hkn m (non m) 0 := by
 intro k hk
 simp [non, hk]
theorem wk_non : ∀ us : List T, wk us (non us.length) = 6 ^ us.length
 | [] => rfl
 | t :: r => by
  have := wk_non r
  unfold non at *
  rw [List.length_cons, List.replicate_succ, wk, this, if_pos rfl, Int.pow_succ, Int.mul_comm]
end
section
attribute [-simp] DV.cells sliceD
attribute [local simp] cells_st cells_sl cells_i cells_y cells_b cells_s cells_w
theorem hasTest_i {so : Nat} {a : Int} (h0 : 0 ≤ a) (h5 : a < 5) : call lf n_impl_hasTest [.i so, .i a] = some (.b (so.testBit a.toNat), []) := by
 have := c_impl_hasTest so a.toNat (by omega)
 rw [Int.toNat_of_nonneg h0] at this
 exact this
theorem or_i {so : Nat} {a : Int} (hs : so < 32) (h0 : 0 ≤ a) (h5 : a < 5) : orI (so : Int) (shlI 1 a) = ((so ||| 2 ^ a.toNat : Nat) : Int) := by
 rw [shl1 h0 (by omega)]
 exact or_nat hs (by omega)
theorem pow_le5 {m : Int} (h : 1 ≤ m ∧ m ≤ 5) : 2 ^ m.toNat ≤ 32 := (pow5 h.1 h.2).2.1
theorem l_impl_OrderOk {m : Int} (hm : 1 ≤ m ∧ m ≤ 5) (n : Int) (hb : n < 1099511627776) (es : List DV) (rest : List Int) : ∀ (k : Int) (so : Nat), so < 2 ^ m.toNat → 0 ≤ k → k + (rest.map DV.i).length = n → es.drop k.toNat = rest.map .i →
  ex lf F_impl_OrderOk_W0 ⟨[(0, .i m), (5, .i so), (17, .sl 0 es), (18, .i n), (19, .i k)], []⟩ =
  if orS m so rest = true then some (.exit 0, ⟨[(0, .i m), (5, .i (setO so rest : Nat)), (17, .sl 0 es), (18, .i n), (19, .i n)], []⟩) else some (.ret, ⟨[(4, .b false)], []⟩) := by
 have p5 := pow_le5 hm
 induction rest with
 | nil =>
  intro k so hs h0 hn hd
  rw [w_impl_OrderOk_0]
  have hk : k = n := by simpa using hn
  simp [F_impl_OrderOk_L0, hk, orS, setO]
 | cons a rest ih =>
  intro k so hs h0 hn hd
  obtain ⟨q1, q2, q3, q4, q5, q6⟩ := stp h0 hn hb hd
  have w : wr (m - 1) = m - 1 := wr_id (by omega) (by omega)
  rw [w_impl_OrderOk_0]
  by_cases ha : 0 ≤ a ∧ a < m
  ·have e1 : decide (0 ≤ a ∧ a ≤ m - 1) = true := decide_eq_true (by omega)
   have e2 : decide (0 ≤ a ∧ a < m) = true := decide_eq_true ha
   have H := hasTest_i (so := so) ha.1 (by omega)
   have n0 : ¬ a < 0 := by omega
   have o := or_i (so := so) (by omega) ha.1 (by omega : a < 5)
   have ih := ih (k + 1) (so ||| 2 ^ a.toNat) (or_lt2 hs (by omega)) q4 q5 q6
   simp only [orS, e2, Bool.true_and, setO]
   cases hb : so.testBit a.toNat with
   | true =>
    rw [hb] at H
    simp [F_impl_OrderOk_L0, q1, q2, q3, w, c_impl_isWithin, e1, H]
   | false =>
    rw [hb] at H
    simp [F_impl_OrderOk_L0, q1, q2, q3, w, c_impl_isWithin, e1, H, n0, o, ih]
  ·have e1 : decide (0 ≤ a ∧ a ≤ m - 1) = false := decide_eq_false (by omega)
   have e2 : decide (0 ≤ a ∧ a < m) = false := decide_eq_false ha
   simp only [orS, e2, Bool.false_and]
   simp [F_impl_OrderOk_L0, q1, q2, q3, w, c_impl_isWithin, e1]
theorem c_impl_OrderOk (m : Int) (os : List Int) (hb : (os.length : Int) < 1099511627776) : call lf n_impl_OrderOk [.i m, .sl 0 (os.map .i)] = some (.b (orOk m os), []) := by
 rw [call_k lf n_impl_OrderOk _ (F := F_impl_OrderOk) rfl rfl]
 unfold orOk
 cases h1 : nOk m with
 | false => simp [F_impl_OrderOk, c_impl_manyOk, h1]
 | true =>
  by_cases h2 : (os.length : Int) = m
  ·have L := l_impl_OrderOk (nOk_iff.1 h1) os.length hb (os.map .i) os 0 0 (Nat.pow_pos (by omega)) (by omega) (by simp) (by simp)
   simp only [Int.natCast_zero] at L
   cases h3 : orS m 0 os <;> rw [h3] at L <;> simp at L <;> simp [F_impl_OrderOk, c_impl_manyOk, h1, h2, L, h3] <;> (subst h2; simp [L])
  ·have y : ((os.length : Int) != m) = true := bne_iff_ne.2 h2
   simp [F_impl_OrderOk, c_impl_manyOk, h1, y, h2]
end
section
attribute [-simp] DV.cells
attribute [local simp] sliceD cells_st cells_sl cells_i cells_y cells_b cells_s cells_w
theorem ins_perm {p q : List Int} {i : Nat} (h : (p ++ q).Perm (rng i)) : (p ++ (i : Int) :: q).Perm (rng (i + 1)) := by
 rw [rng_succ]
 refine List.perm_middle.trans ?_
 refine (List.Perm.cons _ h).trans ?_
 exact (List.perm_append_singleton _ _).symm
theorem perm_len {us : List Int} {i : Nat} (h : us.Perm (rng i)) : us.length = i := by rw [h.length_eq, rng_len]
set_option maxHeartbeats 4000000 in
theorem l_l20Order {bs : List Nat} (hb : ∀ y ∈ bs, y < 256) (hl : bs.length ≤ 2000) (m : Nat) (hm : m ≤ 5) (n : Int) (j : Nat) : ∀ (i : Nat) (p : Int) (K : Nat) (os : List Int), (K = 5640 ∨ K = 11272) → 0 ≤ p → p + j < 900000 → i + j = m → os.Perm (rng i) →
  ∃ us : List Int, us.Perm (rng m) ∧
  ex lf F_spec_l20Order_W0 ⟨[(0, .oad 23 1 0 0), (1, .i m), (2, .i n), (7, .own K i 0 i), (8, .i i)], [(23, [.st [.sl 0 (bs.map .y), .i p]]), (K, os.map .i)]⟩ =
   some (.exit 0, ⟨[(0, .oad 23 1 0 0), (1, .i m), (2, .i n), (7, .own 5640 m 0 m), (8, .i m)], [(23, [.st [.sl 0 (bs.map .y), .i (p + j)]]), (5640, us.map .i)]⟩) := by
 induction j with
 | zero =>
  intro i p K os hK h0 h1 h2 h3
  have : i = m := by omega
  subst this
  have lo := perm_len h3
  refine ⟨os, h3, ?_⟩
  rw [w_spec_l20Order_0]
  rcases hK with rfl | rfl <;> simp [F_spec_l20Order_L0, lo]
 | succ j ih =>
  intro i p K os hK h0 h1 h2 h3
  have lo := perm_len h3
  have b1 := pk_bound hb h0 (by omega : p ≤ 1000000) (by omega : (1 : Int) ≤ (i : Int) + 1)
  have k1 := c_pick hb hl h0 (by omega : p < 1000000) (by omega : (1 : Int) ≤ (i : Int) + 1)
  obtain ⟨a, ha⟩ : ∃ a : Nat, pk bs p ((i : Int) + 1) = a := ⟨(pk bs p ((i : Int) + 1)).toNat, by omega⟩
  rw [ha] at k1 b1
  obtain ⟨x, y, rfl, rfl⟩ : ∃ x y, os = x ++ y ∧ x.length = a := ⟨os.take a, os.drop a, (List.take_append_drop a os).symm, by simp; omega⟩
  have P := ins_perm h3
  have w1 : wr ((i : Int) + 1) = (i : Int) + 1 := wr_id (by omega) (by omega)
  obtain ⟨us, u1, u2⟩ := ih (i + 1) (p + 1) 11272 (x ++ (i : Int) :: y) (.inr rfl) (by omega) (by omega) (by omega) P
  refine ⟨us, u1, ?_⟩
  rw [show p + ((j + 1 : Nat) : Int) = p + 1 + j by omega]
  have lxy : x.length + y.length = i := by simpa using lo
  have hlt : (i : Int) < m := by omega
  have c1 : x.length ≤ bound := by unfold bound; omega
  have c2 : x.length + 1 ≤ bound := by unfold bound; omega
  have c3 : i + 1 ≤ bound := by unfold bound; omega
  have xi : x.length ≤ i := by omega
  have xi' : (x.length : Int) ≤ i := by omega
  have t1 : ((x ++ y).map DV.i).take x.length = x.map .i := by simp
  have t2 : ((x ++ y).map DV.i).drop x.length = y.map .i := by simp
  have t3 : (x ++ y).map DV.i = ((x ++ y).map DV.i).take i := (List.take_of_length_le (by simp; omega)).symm
  have t4 : List.take i ((x ++ y).map DV.i) = (x ++ y).map DV.i := t3.symm
  have hL : ((x ++ y).map DV.i).length = i := by simp; omega
  have e1 : x.length + 1 + y.length = i + 1 := by omega
  rw [w_spec_l20Order_0]
  simp only [Int.natCast_add, Int.natCast_one, List.map_append, List.map_cons] at u2
  have n0 : ¬ (i < x.length) := by omega
  generalize (x ++ y).map DV.i = L at *
  rcases hK with rfl | rfl <;> simp [F_spec_l20Order_L0, hlt, lo, k1, w1, hL, t1, t2, t4, c1, c2, c3, xi, xi', e1, u2]
end
section
def rwOk (row : Int) : Bool := decide (0 ≤ row ∧ row ≤ 1)
/-- the chance of a test to end a row -/
def eA (us : List T) (row : Int) (a : Nat) : Int := if row = 0 then 6 - (us.getD a (0, 0)).2 else (us.getD a (0, 0)).2
def rA (us : List T) (row : Int) : Int → List Int → Int
 | _, [] => 0
 | on, a :: r => cA us a.toNat * on * 6 ^ (r.length + 1) + rA us row (on * (6 - eA us row a.toNat)) r
theorem eA_bd {us : List T} (h : us.all tOk = true) {row : Int} {a : Nat} (ha : a < us.length) : 1 ≤ eA us row a ∧ eA us row a ≤ 5 := by
 have e : us.getD a (0, 0) = us[a] := by simp [List.getD, ha]
 have := tOk_iff.1 (List.all_eq_true.1 h us[a] (List.getElem_mem ha))
 unfold eA
 rw [e]
 split <;> omega
end
section
/-- the one costs no more for its chance to end than the other -/
def rLe (us : List T) (row : Int) (a b : Int) : Bool := decide (cA us a.toNat * eA us row b.toNat ≤ cA us b.toNat * eA us row a.toNat)
def insR (us : List T) (row : Int) (k : Int) : List Int → List Int
 | [] => [k]
 | o :: r => if rLe us row o k = true then o :: insR us row k r else k :: o :: r
def rO (us : List T) (row : Int) : Nat → List Int
 | 0 => []
 | n + 1 => insR us row (n : Int) (rO us row n)
theorem insR_perm (us : List T) (row k : Int) : ∀ l : List Int, (insR us row k l).Perm (k :: l)
 | [] => List.Perm.refl _
 | o :: r => by
  simp only [insR]
  split
  ·exact ((insR_perm us row k r).cons o).trans (List.Perm.swap k o r)
  ·exact List.Perm.refl _
theorem rO_perm (us : List T) (row : Int) : ∀ n : Nat, (rO us row n).Perm (rng n)
 | 0 => List.Perm.refl _
 | n + 1 => by
  rw [rng_succ]
  exact (insR_perm us row n (rO us row n)).trans (((rO_perm us row n).cons (n : Int)).trans (List.perm_append_comm (l₁ := [(n : Int)])))
theorem rO_mem {us : List T} {row : Int} {n : Nat} {o : Int} (h : o ∈ rO us row n) : 0 ≤ o ∧ o < n := mem_rng.1 ((rO_perm us row n).mem_iff.1 h)
theorem rO_len (us : List T) (row : Int) (n : Nat) : (rO us row n).length = n := by rw [(rO_perm us row n).length_eq, rng_len]
theorem rO_ok {us : List T} (h : tsOk us = true) (row : Int) : orOk us.length (rO us row us.length) = true := by
 have h' := tsOk_iff.1 h
 exact perm_ok (m := us.length) (by omega) (by rw [Int.toNat_natCast]; exact rO_perm us row us.length)
theorem rLe_trans {us : List T} (h : us.all tOk = true) {row a b c : Int} (ha : a.toNat < us.length) (hb : b.toNat < us.length) (hc : c.toNat < us.length)
  (h1 : rLe us row a b = true) (h2 : rLe us row b c = true) : rLe us row a c = true := by
 unfold rLe at *
 rw [decide_eq_true_eq] at *
 have ea := eA_bd h (row := row) ha
 have eb := eA_bd h (row := row) hb
 have ec := eA_bd h (row := row) hc
 refine Int.le_of_mul_le_mul_right (a := eA us row b.toNat) ?_ (by omega)
 have q1 := Int.mul_le_mul_of_nonneg_right h1 (show 0 ≤ eA us row c.toNat by omega)
 have q2 := Int.mul_le_mul_of_nonneg_right h2 (show 0 ≤ eA us row a.toNat by omega)
 revert q1 q2
 generalize cA us a.toNat = ca
 generalize cA us b.toNat = cb
 generalize cA us c.toNat = cc
 generalize eA us row a.toNat = x
 generalize eA us row b.toNat = y
 generalize eA us row c.toNat = z
 intro q1 q2
 have e1 : ca * z * y = ca * y * z := by rw [Int.mul_assoc, Int.mul_comm z, Int.mul_assoc]
 have e2 : cb * x * z = cb * z * x := by rw [Int.mul_assoc, Int.mul_comm x, Int.mul_assoc]
 have e3 : cc * x * y = cc * y * x := by rw [Int.mul_assoc, Int.mul_comm x, Int.mul_assoc]
 omega
theorem rLe_total {us : List T} {row a b : Int} (h : rLe us row a b = false) : rLe us row b a = true := by
 unfold rLe at *
 rw [decide_eq_true_eq]
 rw [decide_eq_false_iff_not] at h
 omega
theorem insR_sorted {us : List T} (h : us.all tOk = true) {row k : Int} (hk : k.toNat < us.length) : ∀ {l : List Int}, (∀ o ∈ l, o.toNat < us.length) → l.Pairwise (fun a b => rLe us row a b = true) → (insR us row k l).Pairwise (fun a b => rLe us row a b = true)
 | [], _, _ => List.pairwise_singleton _ _
 | o :: r, hm, hp => by
  obtain ⟨p1, p2⟩ := List.pairwise_cons.1 hp
  have ho := hm o (List.mem_cons_self ..)
  have hr : ∀ x ∈ r, x.toNat < us.length := fun x hx => hm x (List.mem_cons_of_mem _ hx)
  simp only [insR]
  by_cases hc : rLe us row o k = true
  ·rw [if_pos hc]
   refine List.pairwise_cons.2 ⟨fun x hx => ?_, insR_sorted h hk hr p2⟩
   rcases List.mem_cons.1 ((insR_perm us row k r).mem_iff.1 hx) with rfl | hx
   ·exact hc
   ·exact p1 x hx
  ·rw [if_neg hc]
   have hc' : rLe us row k o = true := rLe_total (by simpa using hc)
   refine List.pairwise_cons.2 ⟨fun x hx => ?_, hp⟩
   rcases List.mem_cons.1 hx with rfl | hx
   ·exact hc'
   ·exact rLe_trans h hk ho (hr x hx) hc' (p1 x hx)
theorem rO_sorted {us : List T} (h : us.all tOk = true) (row : Int) : ∀ n : Nat, n ≤ us.length → (rO us row n).Pairwise (fun a b => rLe us row a b = true)
 | 0, _ => List.Pairwise.nil
 | n + 1, hn => by
  refine insR_sorted h (by omega) (fun o ho => ?_) (rO_sorted h row n (by omega))
  have := rO_mem ho
  omega
theorem rng_nodup (n : Nat) : (rng n).Nodup := List.Pairwise.map _ (fun a b h e => h (by omega)) (List.nodup_range (n := n))
theorem or_perm {m : Int} {os : List Int} (h : orOk m os = true) : os.Perm (rng m.toNat) := by
 obtain ⟨g1, g2, g3⟩ := orOk_iff.1 h
 obtain ⟨n1, n2⟩ := orS_nodup.1 g3
 refine (List.perm_ext_iff_of_nodup n2 (rng_nodup _)).2 fun o => ?_
 constructor
 ·intro ho
  exact mem_rng.2 (by have := (n1 o ho).1; omega)
 ·intro ho
  have hr := mem_rng.1 ho
  have := set_all h o.toNat (by omega)
  rw [setO_bit (fun x hx => (n1 x hx).1.1)] at this
  rcases this with q | q
  ·simp at q
  ·rwa [Int.toNat_of_nonneg hr.1] at q
end
section
def fl (s : Int) (i : Nat) : Bool := s / 2 ^ i % 2 == 1
def onceM : List T → Int → Bool
 | [], _ => true
 | t :: r, s => if t.1 = 0 then (!fl s t.2.toNat && onceM r (orI s (2 ^ t.2.toNat))) else onceM r s
def onceOk (m : Int) (ts : List T) : Bool := tmOk m ts && onceM ts 0
end
section
def prR (us : List T) (row : Int) : Int → List Int → Int
 | on, [] => on
 | on, a :: r => prR us row (on * (6 - eA us row a.toNat)) r
def pY : List T → Int
 | [] => 1
 | t :: r => t.2 * pY r
def pN : List T → Int
 | [] => 1
 | t :: r => (6 - t.2) * pN r
theorem wt_none : ∀ us : List T, wt us ((0 : Nat) : Int) = pN us
 | [] => rfl
 | t :: r => by
  have := (wt_two t r 0).1
  rw [wt_none r] at this
  exact this
end
section
attribute [-simp] DV.cells sliceD
attribute [local simp] cells_st cells_sl cells_i cells_y cells_b cells_s cells_w
theorem non_len (k : Nat) : (non k).length = k := by simp [non]
end
section
attribute [-simp] DV.cells sliceD
attribute [local simp] cells_st cells_sl cells_i cells_y cells_b cells_s cells_w
theorem cA_at {us : List T} {a : Int} (h0 : 0 ≤ a) (h1 : a < us.length) : ∃ c q : Int, atI (us.map e2) a = some (.st [.i c, .i q]) ∧ c = cA us a.toNat ∧ us.getD a.toNat (0, 0) = (c, q) := by
 have hl : a.toNat < us.length := by omega
 have e : us.getD a.toNat (0, 0) = us[a.toNat] := by simp [List.getD, hl]
 refine ⟨us[a.toNat].1, us[a.toNat].2, ?_, ?_, e⟩
 ·simp only [atI, if_pos h0]
  show (us.map e2)[a.toNat]? = _
  simp [hl, e2]
 ·unfold cA; rw [e]
end
section
attribute [-simp] DV.cells sliceD
attribute [local simp] cells_st cells_sl cells_i cells_y cells_b cells_s cells_w
theorem p6 : ∀ {n : Nat}, n ≤ 5 → (1 : Int) ≤ 6 ^ n ∧ (6 : Int) ^ n ≤ 7776 := by
 intro n hn
 have : n = 0 ∨ n = 1 ∨ n = 2 ∨ n = 3 ∨ n = 4 ∨ n = 5 := by omega
 rcases this with rfl | rfl | rfl | rfl | rfl | rfl <;> decide
theorem c_spec_l1Power {n : Nat} (h : n ≤ 5) : call lf n_spec_l1Power [.i n] = some (.i (6 ^ n), []) := by
 have L := loop_count (lf := lf) (L := F_spec_l1Power_L0) n (fun i => ⟨[(0, .i n), (3, .i (6 ^ i)), (4, .i i)], []⟩) (x := .exit 0) (R := ⟨[(0, .i n), (3, .i (6 ^ n)), (4, .i n)], []⟩) (fun i hi => by
  have p := p6 (n := i) (by omega)
  have w1 : wr ((i : Int) + 1) = i + 1 := wr_id (by omega) (by omega)
  have w2 : wr ((6 : Int) ^ i * 6) = 6 ^ (i + 1) := by rw [wr_id (by omega) (by omega), Int.pow_succ]
  simp [F_spec_l1Power_L0, hi, w1, w2]) (by simp [F_spec_l1Power_L0]) (by simp)
 have L' : ex lf F_spec_l1Power_W0 ⟨[(0, .i n), (3, .i 1), (4, .i 0)], []⟩ = some (.exit 0, ⟨[(0, .i n), (3, .i (6 ^ n)), (4, .i n)], []⟩) := L
 rw [call_k lf n_spec_l1Power _ (F := F_spec_l1Power) rfl rfl]
 simp [F_spec_l1Power, L']
def stW (us : List T) (tab : Nat) (os : List Int) (k : Nat) (ks : List Int) (w a sum sd : Int) : LS :=
 ⟨[(0, .sl 0 (us.map e2)), (1, .i tab), (2, .sl 0 (os.map .i)), (3, .i k), (4, .sl 0 (ks.map .i)), (5, .i w), (13, .i a), (14, .i sum), (15, .i sd)], []⟩
end
section
attribute [-simp] DV.cells
attribute [local simp] sliceD cells_st cells_sl cells_i cells_y cells_b cells_s cells_w
def raOk (us : List T) (os : List Int) (row : Int) : Bool := tsOk us && orOk us.length os && rwOk row
def raOf (us : List T) (os : List Int) (row : Int) : Int := if raOk us os row then rA us row 1 os else -1
theorem p6le {i j : Nat} (h : i + j ≤ 5) {on : Int} (h0 : 0 ≤ on) (h1 : on ≤ 6 ^ i) : 0 ≤ on * 6 ^ j ∧ on * 6 ^ j ≤ 7776 := by
 have pj := p6 (n := j) (by omega)
 have q := (p6 h).2
 rw [Int.pow_add] at q
 have := Int.mul_le_mul_of_nonneg_right h1 (show (0 : Int) ≤ 6 ^ j by omega)
 have := Int.mul_nonneg h0 (show (0 : Int) ≤ 6 ^ j by omega)
 omega
end
section
attribute [-simp] DV.cells
attribute [local simp] sliceD cells_st cells_sl cells_i cells_y cells_b cells_s cells_w
def insPos (us : List T) (row k : Int) : List Int → Nat
 | [] => 0
 | o :: r => if rLe us row o k = true then insPos us row k r + 1 else 0
theorem insPos_le (us : List T) (row k : Int) : ∀ l : List Int, insPos us row k l ≤ l.length
 | [] => Nat.le_refl _
 | o :: r => by
  have := insPos_le us row k r
  simp only [insPos, List.length_cons]
  split <;> omega
theorem insR_pos (us : List T) (row k : Int) : ∀ l : List Int, insR us row k l = l.take (insPos us row k l) ++ k :: l.drop (insPos us row k l)
 | [] => rfl
 | o :: r => by
  simp only [insR, insPos]
  by_cases h : rLe us row o k = true
  ·rw [if_pos h, if_pos h, insR_pos us row k r]; simp
  ·rw [if_neg h, if_neg h]; simp
end
section
attribute [-simp] DV.cells
attribute [local simp] sliceD cells_st cells_sl cells_i cells_y cells_b cells_s cells_w
def roL (us : List T) (row : Int) : List Int := if tsOk us && rwOk row then rO us row us.length else []
end
section
inductive PT where
 | stop
 | ask (k : Nat) (no yes : PT)
/-- how many are not known -/
def uk : List Int → Nat
 | [] => 0
 | k :: r => (if k = -1 then 1 else 0) + uk r
theorem uk_set {b : Int} (hb : b ≠ -1) : ∀ {ks : List Int} {k : Nat}, ks[k]? = some (-1) → uk (ks.set k b) + 1 = uk ks
 | [], k, h => by simp at h
 | x :: r, 0, h => by
  simp only [List.getElem?_cons_zero, Option.some.injEq] at h
  subst h
  simp only [List.set_cons_zero, uk, if_neg hb, if_true]
  omega
 | x :: r, k + 1, h => by
  simp only [List.getElem?_cons_succ] at h
  have := uk_set hb h
  simp only [List.set_cons_succ, uk]
  omega
theorem uk_non (m : Nat) : uk (non m) = m := by
 induction m with
 | zero => rfl
 | succ n ih =>
  show uk (List.replicate (n + 1) (-1)) = n + 1
  rw [List.replicate_succ, uk, if_pos rfl, show List.replicate n (-1 : Int) = non n from rfl, ih]
  omega
/-- one more is known: what the weights are then -/
theorem wk_put : ∀ {us : List T} {ks : List Int} {k : Nat}, ks.length = us.length → ks[k]? = some (-1) →
  ∃ w, wk us ks = 6 * w ∧ wk us (ks.set k 0) = w * (6 - (us.getD k (0, 0)).2) ∧ wk us (ks.set k 1) = w * (us.getD k (0, 0)).2
 | _, [], k, _, h => by simp at h
 | [], x :: r, k, hl, h => by simp at hl
 | t :: us, x :: r, 0, hl, h => by
  simp only [List.getElem?_cons_zero, Option.some.injEq] at h
  subst h
  refine ⟨wk us r, rfl, ?_, ?_⟩
  ·show (6 - t.2) * wk us r = _
   rw [Int.mul_comm]; rfl
  ·show t.2 * wk us r = _
   rw [Int.mul_comm]; rfl
 | t :: us, x :: r, k + 1, hl, h => by
  simp only [List.getElem?_cons_succ] at h
  obtain ⟨w, h1, h2, h3⟩ := wk_put (us := us) (by simpa using hl) h
  have e : ∀ ks : List Int, wk (t :: us) (x :: ks) = (if x = -1 then 6 else if x = 1 then t.2 else 6 - t.2) * wk us ks := fun _ => rfl
  generalize hc : (if x = -1 then 6 else if x = 1 then t.2 else 6 - t.2) = c at e
  refine ⟨c * w, ?_, ?_, ?_⟩
  ·rw [e, h1, Int.mul_left_comm]
  ·rw [List.set_cons_succ, e, h2, Int.mul_assoc]; rfl
  ·rw [List.set_cons_succ, e, h3, Int.mul_assoc]; rfl
theorem agB_put {b : Bool} {s : Nat} : ∀ {ks : List Int} {k : Nat}, ks[k]? = some (-1) → agB (ks.set k (bI b)) s = (agB ks s && (s.testBit k == b)) := by
 intro ks k h
 rw [Bool.eq_iff_iff, Bool.and_eq_true, agB_iff, agB_iff, beq_iff_eq]
 have hk : k < ks.length := (List.getElem?_eq_some_iff.1 h).1
 constructor
 ·intro H
  refine ⟨fun j v hj => ?_, ?_⟩
  ·by_cases e : j = k
   ·subst e; rw [h] at hj; injection hj with hj; exact .inl hj.symm
   ·exact H j v (by rw [List.getElem?_set_ne (Ne.symm e)]; exact hj)
  ·rcases H k (bI b) (by rw [List.getElem?_set_self hk]) with q | q
   ·cases b <;> simp [bI] at q
   ·exact (bI_inj.1 q).symm
 ·rintro ⟨H, hb⟩ j v hj
  by_cases e : j = k
  ·subst e
   rw [List.getElem?_set_self hk] at hj
   injection hj with hj
   right
   rw [← hj, hb]
  ·rw [List.getElem?_set_ne (Ne.symm e)] at hj
   exact H j v hj
theorem bI_0 : bI false = 0 := rfl
theorem bI_1 : bI true = 1 := rfl
theorem kOk_set {ks : List Int} (h : ks.all kOk = true) (k : Nat) (b : Bool) : (ks.set k (bI b)).all kOk = true := by
 rw [List.all_eq_true] at h ⊢
 intro x hx
 rcases List.mem_or_eq_of_mem_set hx with h1 | h1
 ·exact h x h1
 ·rw [h1]; cases b <;> decide
theorem non_all (m : Nat) : (non m).all kOk = true := by
 rw [List.all_eq_true]
 intro x hx
 rw [List.eq_of_mem_replicate hx]
 decide
theorem agB_non (m s : Nat) : agB (non m) s = true := by
 rw [agB_iff]
 intro k v h
 left
 exact List.eq_of_mem_replicate (List.mem_of_getElem? h)
def fcd (m : Nat) (t : List T) (ks : List Int) : Bool := foT m t ks != -1
theorem fcd_iff {m : Nat} {t : List T} {ks : List Int} (hl : ks.length = m) (hk : ks.all kOk = true) : fcd m t ks = true ↔ ∃ b, ∀ s, s < 2 ^ m → agB ks s = true → tv t s = b := by
 subst hl
 have hne := agB_some hk
 have F := fun b => fo_b (f := tv t) (g := agB ks) hne b
 have O := fo_or (tv t) (agB ks) (2 ^ ks.length)
 unfold fcd foT
 rw [Int.toNat_natCast, bne_iff_ne]
 constructor
 ·intro h
  rcases O with o | o | o
  ·exact ⟨true, (F true).1 o⟩
  ·exact ⟨false, (F false).1 o⟩
  ·exact absurd o h
 ·rintro ⟨b, hb⟩ h
  have := (F b).2 hb
  rw [h] at this
  cases b <;> simp [bI] at this
def okT (m : Nat) (t : List T) : List Int → PT → Prop
 | ks, .stop => fcd m t ks = true
 | ks, .ask k n y => fcd m t ks = false ∧ ks[k]? = some (-1) ∧ okT m t (ks.set k 0) n ∧ okT m t (ks.set k 1) y
/-- what a tree costs on average from what is known on -/
def tA (us : List T) : List Int → PT → Int
 | _, .stop => 0
 | ks, .ask k n y => wk us ks * cA us k + tA us (ks.set k 0) n + tA us (ks.set k 1) y
theorem cA_nn' {us : List T} (h : us.all tOk = true) (k : Nat) : 0 ≤ cA us k := by
 have := cA_nn h k
 omega
/-- what a tree costs in a state -/
def tC (us : List T) : PT → Nat → Int
 | .stop, _ => 0
 | .ask k n y, s => cA us k + if s.testBit k then tC us y s else tC us n s
theorem tA_sum {us t : List T} : ∀ (x : PT) (ks : List Int), ks.length = us.length → ks.all kOk = true → okT us.length t ks x → tA us ks x = sumTo (fun s => if agB ks s then wt us s * tC us x s else 0) (2 ^ us.length)
 | .stop, ks, hl, hk, hx => by
  simp only [tA, tC, Int.mul_zero]
  exact (sumTo_zero fun k _ => by split <;> rfl).symm
 | .ask k n y, ks, hl, hk, ⟨h1, h2, h3, h4⟩ => by
  have a0 := tA_sum n (ks.set k 0) (by simpa using hl) (kOk_set hk k false) h3
  have a1 := tA_sum y (ks.set k 1) (by simpa using hl) (kOk_set hk k true) h4
  have s0 := fun s => agB_put (s := s) (b := false) h2
  have s1 := fun s => agB_put (s := s) (b := true) h2
  rw [bI_0] at s0
  rw [bI_1] at s1
  have w := wa_wk hl hk
  unfold wa at w
  simp only [tA]
  rw [a0, a1, ← w, Int.mul_comm, ← sumTo_mul, ← sumTo_add, ← sumTo_add]
  refine sumTo_congr fun s _ => ?_
  have e : ag ks (s : Int) = agB ks s := rfl
  rw [s0, s1, e]
  simp only [tC]
  cases agB ks s <;> cases s.testBit k <;> simp [Int.mul_add, Int.mul_comm]
end
section
/-- from what is known on, from nothing known on -/
theorem ks_ex {ks : List Int} {k : Nat} (h : ks[k]? = some (-1)) : k < ks.length := (List.getElem?_eq_some_iff.1 h).1
/-- whether a tree asks a test -/
def asks (k : Nat) : PT → Prop
 | .stop => False
 | .ask j n y => j = k ∨ asks k n ∨ asks k y
end
section
theorem ks_okN {m : Nat} {ks : List Int} (h1 : 1 ≤ m ∧ m ≤ 5) (hl : ks.length = m) (hk : ks.all kOk = true) : ksOk (m : Int) ks = true := ksOk_iff.2 ⟨by omega, by omega, hk⟩
end
section
/-- the tests that a tree asks in a state, one by one -/
def pth : PT → Nat → List Nat
 | .stop, _ => []
 | .ask k n y, s => k :: if s.testBit k then pth y s else pth n s
/-- .. as bits -/
def bitsN : Nat → List Nat → Nat
 | so, [] => so
 | so, k :: r => bitsN (so ||| 2 ^ k) r
theorem bitsN_lt {m : Nat} : ∀ (l : List Nat) (so : Nat), so < 2 ^ m → (∀ k ∈ l, k < m) → bitsN so l < 2 ^ m
 | [], _, h, _ => h
 | j :: r, so, h, hl => bitsN_lt r (so ||| 2 ^ j) (Nat.or_lt_two_pow h (Nat.pow_lt_pow_right (by omega) (hl j (List.mem_cons_self ..)))) fun k hk => hl k (List.mem_cons_of_mem j hk)
/-- each test is asked once, and none that is known -/
theorem pth_nodup {m : Nat} {t : List T} : ∀ (x : PT) (ks : List Int) (s : Nat), okT m t ks x → (pth x s).Nodup ∧ ∀ k ∈ pth x s, ks[k]? = some (-1)
 | .stop, _, _, _ => ⟨List.nodup_nil, fun k hk => by cases hk⟩
 | .ask k n y, ks, s, ⟨h1, h2, h3, h4⟩ => by
  have key : ∀ (b : Bool) (z : PT), ((pth z s).Nodup ∧ ∀ j ∈ pth z s, (ks.set k (bI b))[j]? = some (-1)) → (k :: pth z s).Nodup ∧ ∀ j ∈ k :: pth z s, ks[j]? = some (-1) := by
   rintro b z ⟨z1, z2⟩
   have hne : ∀ j ∈ pth z s, j ≠ k := fun j hj e => by
    have := z2 j hj
    rw [e, List.getElem?_set_self (ks_ex h2)] at this
    cases b <;> simp [bI] at this
   refine ⟨List.nodup_cons.2 ⟨fun hk => hne k hk rfl, z1⟩, fun j hj => ?_⟩
   rcases List.mem_cons.1 hj with rfl | hj
   ·exact h2
   ·have := z2 j hj
    rwa [List.getElem?_set_ne (Ne.symm (hne j hj))] at this
  simp only [pth]
  cases s.testBit k
  ·exact key false n (pth_nodup n _ s h3)
  ·exact key true y (pth_nodup y _ s h4)
/-- what it asks is a proof -/
theorem pth_prf {m : Nat} {t : List T} (hm : 1 ≤ m ∧ m ≤ 5) : ∀ (x : PT) (ks : List Int) (so s : Nat), ks.length = m → ks.all kOk = true → hkn m ks so → agB ks s = true → okT m t ks x → prf m t s (bitsN so (pth x s)) = true
 | .stop, ks, so, s, hl, hk, hn, hg, hx => by
  have := prf_kn (t := t) (ks_okN hm hl hk) (by rw [Int.toNat_natCast]; exact hn) hg
  simp only [pth, bitsN]
  rw [this]
  exact hx
 | .ask k n y, ks, so, s, hl, hk, hn, hg, ⟨h1, h2, h3, h4⟩ => by
  have hkm : k < m := by rw [← hl]; exact ks_ex h2
  have ga := fun b => agB_put (s := s) (b := b) h2
  simp only [pth]
  cases hb : s.testBit k
  ·refine pth_prf hm n (ks.set k (bI false)) (so ||| 2 ^ k) s (by simpa using hl) (kOk_set hk k false) (hkn_set hl hkm hn false) ?_ h3
   rw [ga, hg, hb]; rfl
  ·refine pth_prf hm y (ks.set k (bI true)) (so ||| 2 ^ k) s (by simpa using hl) (kOk_set hk k true) (hkn_set hl hkm hn true) ?_ h4
   rw [ga, hg, hb]; rfl
theorem pth_cB {us t : List T} : ∀ (x : PT) (ks : List Int) (so s : Nat), ks.length = us.length → hkn us.length ks so → okT us.length t ks x → cB us (bitsN so (pth x s)) us.length = cB us so us.length + tC us x s
 | .stop, _, _, _, _, _, _ => by simp [pth, bitsN, tC]
 | .ask k n y, ks, so, s, hl, hn, ⟨h1, h2, h3, h4⟩ => by
  have hkm : k < us.length := by rw [← hl]; exact ks_ex h2
  have o := cB_or (us := us) hkm ((hn k hkm).1 h2)
  simp only [pth, tC]
  cases s.testBit k
  ·have := pth_cB n (ks.set k (bI false)) (so ||| 2 ^ k) s (by simpa using hl) (hkn_set hl hkm hn false) h3
   simp only [Bool.false_eq_true, if_false, bitsN]
   omega
  ·have := pth_cB y (ks.set k (bI true)) (so ||| 2 ^ k) s (by simpa using hl) (hkn_set hl hkm hn true) h4
   simp only [if_true, bitsN]
   omega
/-- .. from the beginning -/
def ask0 (x : PT) (s : Nat) : Nat := bitsN 0 (pth x s)
theorem ask0_spec {us t : List T} (h : tsOk us = true) {x : PT} (hx : okT us.length t (non us.length) x) (s : Nat) :
  prf us.length t s (ask0 x s) = true ∧ cB us (ask0 x s) us.length = tC us x s ∧ ask0 x s < 2 ^ us.length := by
 have h' := tsOk_iff.1 h
 have nd := pth_nodup x (non us.length) s hx
 refine ⟨pth_prf (by omega) x (non us.length) 0 s (non_len _) (non_all _) (non_kn _) (agB_non _ _) hx, ?_, bitsN_lt _ _ (Nat.pow_pos (by omega)) fun k hk => ?_⟩
 ·have := pth_cB x (non us.length) 0 s (non_len _) (non_kn _) hx
  rw [cB_zero] at this
  unfold ask0
  omega
 ·have := ks_ex (nd.2 k hk)
  rwa [non_len] at this
theorem tC_nn {us : List T} (h : us.all tOk = true) : ∀ (x : PT) (s : Nat), 0 ≤ tC us x s
 | .stop, _ => Int.le_refl _
 | .ask k n y, s => by
  have a0 := tC_nn h n s
  have a1 := tC_nn h y s
  have := cA_nn' h k
  simp only [tC]
  split <;> omega
def dpT : PT → Nat
 | .stop => 0
 | .ask _ n y => 1 + max (dpT n) (dpT y)
theorem pth_le : ∀ (x : PT) (s : Nat), (pth x s).length ≤ dpT x
 | .stop, _ => Nat.le_refl _
 | .ask k n y, s => by
  have a0 := pth_le n s
  have a1 := pth_le y s
  simp only [pth, dpT, List.length_cons]
  split <;> omega
theorem dpT_le {m : Nat} {t : List T} : ∀ (x : PT) (ks : List Int), ks.length = m → okT m t ks x → dpT x ≤ uk ks
 | .stop, _, _, _ => Nat.zero_le _
 | .ask k n y, ks, hl, ⟨h1, h2, h3, h4⟩ => by
  have q := fun (b : Bool) => uk_set (b := bI b) (by cases b <;> simp [bI]) h2
  have a0 := dpT_le n (ks.set k (bI false)) (by simpa using hl) h3
  have a1 := dpT_le y (ks.set k (bI true)) (by simpa using hl) h4
  have q0 := q false
  have q1 := q true
  simp only [dpT]
  omega
end
section
def occ (a : Nat) : Tm → Bool
 | .tst b => b == a
 | .neg x => occ a x
 | .and x y => occ a x || occ a y
 | .or x y => occ a x || occ a y
/-- no test twice -/
def ton : Tm → Prop
 | .tst _ => True
 | .neg x => ton x
 | .and x y => ton x ∧ ton y ∧ ∀ a, occ a x = true → occ a y = false
 | .or x y => ton x ∧ ton y ∧ ∀ a, occ a x = true → occ a y = false
/-- letters are the tests that occur -/
theorem fl_bit {s : Int} (h0 : 0 ≤ s) (i : Nat) : fl s i = s.toNat.testBit i := by
 obtain ⟨n, rfl⟩ := Int.eq_ofNat_of_zero_le h0
 unfold fl
 rw [div_bI, bI_eq1]; simp
theorem lett_occ {m : Int} (h1 : 1 ≤ m) (h5 : m ≤ 5) : ∀ {x : Tm}, tb m x → ∀ {s : Int}, 0 ≤ s → s < 2 ^ m.toNat → (0 ≤ (flt x).foldl letF s ∧ (flt x).foldl letF s < 2 ^ m.toNat) ∧ ∀ a, ((flt x).foldl letF s).toNat.testBit a = (s.toNat.testBit a || occ a x)
 | .tst b, hb, s, h0, h2 => by
  have hb' : (b : Int) < m := hb
  have e : (flt (.tst b)).foldl letF s = orI s (2 ^ b) := by simp [flt, letF]
  have hp : ((2 ^ b : Nat) : Int) = 2 ^ b := by simp
  have hk2 : (2 ^ b : Nat) < 2 ^ m.toNat := Nat.pow_lt_pow_right (by omega) (by omega)
  obtain ⟨p1, p2, p3⟩ := pow5 h1 h5
  obtain ⟨q1, q2, q3⟩ := or_lt h1 h5 h0 h2 (b := 2 ^ b) (by rw [← hp]; exact Int.natCast_nonneg _) (by rw [← hp]; omega)
  rw [e]
  refine ⟨⟨q1, q2⟩, fun a => ?_⟩
  rw [q3, ← hp, Int.toNat_natCast, Nat.testBit_or, Nat.testBit_two_pow]
  rfl
 | .neg x, hb, s, h0, h2 => by
  obtain ⟨q1, q2⟩ := lett_occ h1 h5 (x := x) hb h0 h2
  have e : (flt (.neg x)).foldl letF s = (flt x).foldl letF s := by simp [flt, letF]
  rw [e]
  exact ⟨q1, q2⟩
 | .and x y, hb, s, h0, h2 => by
  obtain ⟨q1, q2⟩ := lett_occ h1 h5 (x := x) hb.1 h0 h2
  obtain ⟨r1, r2⟩ := lett_occ h1 h5 (x := y) hb.2 q1.1 q1.2
  have e : (flt (.and x y)).foldl letF s = (flt y).foldl letF ((flt x).foldl letF s) := by simp [flt, letF]
  rw [e]
  exact ⟨r1, fun a => by rw [r2, q2]; simp only [occ, Bool.or_assoc]⟩
 | .or x y, hb, s, h0, h2 => by
  obtain ⟨q1, q2⟩ := lett_occ h1 h5 (x := x) hb.1 h0 h2
  obtain ⟨r1, r2⟩ := lett_occ h1 h5 (x := y) hb.2 q1.1 q1.2
  have e : (flt (.or x y)).foldl letF s = (flt y).foldl letF ((flt x).foldl letF s) := by simp [flt, letF]
  rw [e]
  exact ⟨r1, fun a => by rw [r2, q2]; simp only [occ, Bool.or_assoc]⟩
end
section
abbrev C3 := Int × Int × Int
/-- a tree with the places of its choices -/
inductive LT where
 | stop
 | ask (p k : Nat) (no yes : LT)
def LT.er : LT → PT
 | .stop => .stop
 | .ask _ k n y => .ask k n.er y.er
def LT.size : LT → Nat
 | .stop => 0
 | .ask _ _ n y => 1 + n.size + y.size
/-- where one may go on to from a place -/
def nxt (N : Nat) (p : Nat) (a : Int) : Prop := a = -1 ∨ ((p : Int) + 1 ≤ a ∧ a ≤ (N : Int) - 1)
instance (N p : Nat) (a : Int) : Decidable (nxt N p a) := by unfold nxt; infer_instance
/-- the row holds the tree, from a place on -/
def enc (P : List C3) : Int → LT → Prop
 | a, .stop => a = -1
 | a, .ask p k n y => a = (p : Int) ∧ ∃ no ye, P[p]? = some ((k : Int), no, ye) ∧ nxt P.length p no ∧ nxt P.length p ye ∧ enc P no n ∧ enc P ye y
/-- what is checked, from a place on -/
def ck (m : Nat) (t : List T) (P : List C3) : Nat → Int → List Int → Int × Bool
 | 0, _, _ => (0, false)
 | f + 1, a, ks => if a = -1 ∨ fcd m t ks = true then (0, decide (a = -1) && fcd m t ks) else
  match P[a.toNat]? with
  | none => (0, false)
  | some (k, no, ye) =>
   if ¬ (0 ≤ k ∧ k < m) ∨ ks[k.toNat]? ≠ some (-1) then (0, false)
   else if ¬ nxt P.length a.toNat no then (0, false)
   else if (ck m t P f no (ks.set k.toNat 0)).2 = false then (0, false)
   else if ¬ nxt P.length a.toNat ye then (0, false)
   else if (ck m t P f ye (ks.set k.toNat 1)).2 = false then (0, false)
   else (1 + (ck m t P f no (ks.set k.toNat 0)).1 + (ck m t P f ye (ks.set k.toNat 1)).1, true)
theorem ck_of {m : Nat} {t : List T} {P : List C3} : ∀ (L : LT) (f : Nat) (a : Int) (ks : List Int), ks.length = m → uk ks < f → enc P a L → okT m t ks L.er → ck m t P f a ks = ((L.size : Int), true)
 | .stop, 0, _, _, _, hf, _, _ => by omega
 | .stop, f + 1, a, ks, hl, hf, he, ho => by
  have he : a = -1 := he
  have ho : fcd m t ks = true := ho
  simp only [ck]
  rw [if_pos (.inl he), ho, he]
  rfl
 | .ask p k n y, 0, _, _, _, hf, _, _ => by omega
 | .ask p k n y, f + 1, a, ks, hl, hf, ⟨e, no, ye, h1, h2, h3, h4, h5⟩, ⟨o1, o2, o3, o4⟩ => by
  subst e
  have q := fun (b : Bool) => uk_set (b := bI b) (by cases b <;> simp [bI]) o2
  have q0 := q false
  have q1 := q true
  have c0 := ck_of n f no (ks.set k 0) (by simpa using hl) (by rw [bI_0] at q0; omega) h4 o3
  have c1 := ck_of y f ye (ks.set k 1) (by simpa using hl) (by rw [bI_1] at q1; omega) h5 o4
  have hk : k < m := by rw [← hl]; exact ks_ex o2
  simp only [ck]
  rw [if_neg (by rw [o1]; rintro (h | h); omega; cases h), Int.toNat_natCast, h1]
  simp only [Int.toNat_natCast]
  rw [if_neg (by rintro (h | h); omega; exact h o2), if_neg (fun h => h h2), c0, if_neg (by simp), if_neg (fun h => h h3), c1, if_neg (by simp)]
  simp only [LT.size]
  congr 1
theorem ck_to {m : Nat} {t : List T} {P : List C3} : ∀ (f : Nat) (a : Int) (ks : List Int), ks.length = m → (a = -1 ∨ 0 ≤ a) → (ck m t P f a ks).2 = true → ∃ L, enc P a L ∧ okT m t ks L.er ∧ (ck m t P f a ks).1 = (L.size : Int)
 | 0, a, ks, hl, ha, h => by simp [ck] at h
 | f + 1, a, ks, hl, ha, h => by
  simp only [ck] at h ⊢
  by_cases c1 : a = -1 ∨ fcd m t ks = true
  ·rw [if_pos c1] at h ⊢
   simp only [Bool.and_eq_true, decide_eq_true_eq] at h
   exact ⟨.stop, h.1, h.2, rfl⟩
  ·rw [if_neg c1] at h ⊢
   cases hp : P[a.toNat]? with
   | none => rw [hp] at h; cases h
   | some c =>
    obtain ⟨k, no, ye⟩ := c
    rw [hp] at h
    simp only at h ⊢
    by_cases c2 : ¬ (0 ≤ k ∧ k < m) ∨ ks[k.toNat]? ≠ some (-1)
    ·rw [if_pos c2] at h; cases h
    rw [if_neg c2] at h ⊢
    by_cases c3 : ¬ nxt P.length a.toNat no
    ·rw [if_pos c3] at h; cases h
    rw [if_neg c3] at h ⊢
    by_cases c4 : (ck m t P f no (ks.set k.toNat 0)).2 = false
    ·rw [if_pos c4] at h; cases h
    rw [if_neg c4] at h ⊢
    by_cases c5 : ¬ nxt P.length a.toNat ye
    ·rw [if_pos c5] at h; cases h
    rw [if_neg c5] at h ⊢
    by_cases c6 : (ck m t P f ye (ks.set k.toNat 1)).2 = false
    ·rw [if_pos c6] at h; cases h
    rw [if_neg c6]
    have n3 : nxt P.length a.toNat no := Classical.not_not.1 c3
    have n5 : nxt P.length a.toNat ye := Classical.not_not.1 c5
    have k2 : (0 ≤ k ∧ k < m) ∧ ks[k.toNat]? = some (-1) := by
     rw [not_or] at c2
     exact ⟨Classical.not_not.1 c2.1, Classical.not_not.1 c2.2⟩
    have a0 : 0 ≤ a := by rcases ha with e | e; exact absurd (.inl e) c1; exact e
    have nx : ∀ {b : Int}, nxt P.length a.toNat b → b = -1 ∨ 0 ≤ b := fun h => by rcases h with h | h; exact .inl h; exact .inr (by omega)
    obtain ⟨L0, e0, o0, z0⟩ := ck_to f no (ks.set k.toNat 0) (by simpa using hl) (nx n3) (by simpa using c4)
    obtain ⟨L1, e1, o1, z1⟩ := ck_to f ye (ks.set k.toNat 1) (by simpa using hl) (nx n5) (by simpa using c6)
    rw [not_or] at c1
    refine ⟨.ask a.toNat k.toNat L0 L1, ⟨by omega, no, ye, by rw [hp, Int.toNat_of_nonneg k2.1.1], n3, n5, e0, e1⟩, ⟨by simpa using c1.2, k2.2, o0, o1⟩, ?_⟩
    rw [z0, z1]
    simp only [LT.size]
    omega
/-- where a row goes on to -/
def rfs : List C3 → List Int
 | [] => []
 | (_, no, ye) :: r => (if no = -1 then [] else [no]) ++ (if ye = -1 then [] else [ye]) ++ rfs r
def oncP (P : List C3) : Prop := (rfs P).Nodup ∧ ∀ a ∈ rfs P, 0 ≤ a ∧ a < P.length
/-- how often a place is in a tree -/
def LT.cnt (a : Nat) : LT → Nat
 | .stop => 0
 | .ask p _ n y => (if p = a then 1 else 0) + n.cnt a + y.cnt a
def LT.rcn (P : List C3) (a : Nat) : LT → Nat
 | .stop => 0
 | .ask p _ n y => (if (P[p]?.map fun c => c.2.1) = some (a : Int) then 1 else 0) + (if (P[p]?.map fun c => c.2.2) = some (a : Int) then 1 else 0) + n.rcn P a + y.rcn P a
theorem cnt_root {P : List C3} {a : Nat} : ∀ {L : LT} {b : Int}, enc P b L → L.cnt a = (if b = (a : Int) then 1 else 0) + L.rcn P a
 | .stop, b, h => by
  have h : b = -1 := h
  simp only [LT.cnt, LT.rcn]
  rw [if_neg (by omega)]
 | .ask p k n y, b, ⟨e, no, ye, h1, _, _, h4, h5⟩ => by
  have c0 := cnt_root (a := a) h4
  have c1 := cnt_root (a := a) h5
  simp only [LT.cnt, LT.rcn]
  rw [c0, c1, h1, e]
  simp only [Option.map_some, Option.some.injEq, Int.natCast_inj]
  omega
theorem rfs_mem {a : Int} : ∀ {P : List C3}, a ∈ rfs P ↔ a ≠ -1 ∧ ∃ (p : Nat) (c : C3), P[p]? = some c ∧ (c.2.1 = a ∨ c.2.2 = a)
 | [] => by simp [rfs]
 | (k, no, ye) :: r => by
  have ih := rfs_mem (a := a) (P := r)
  simp only [rfs, List.mem_append, ih]
  constructor
  ·rintro ((h | h) | ⟨h, p, c, h1, h2⟩)
   ·split at h
    ·cases h
    ·rename_i hn
     have : a = no := by simpa using h
     subst this
     exact ⟨hn, 0, _, rfl, .inl rfl⟩
   ·split at h
    ·cases h
    ·rename_i hn
     have : a = ye := by simpa using h
     subst this
     exact ⟨hn, 0, _, rfl, .inr rfl⟩
   ·exact ⟨h, p + 1, c, by simpa using h1, h2⟩
  ·rintro ⟨hn, p, c, h1, h2⟩
   cases p with
   | zero =>
    simp only [List.getElem?_cons_zero, Option.some.injEq] at h1
    subst h1
    simp only at h2
    left
    rcases h2 with h2 | h2
    ·subst h2; left; rw [if_neg hn]; simp
    ·subst h2; right; rw [if_neg hn]; simp
   | succ p => exact .inr ⟨hn, p, c, by simpa using h1, h2⟩
/-- just one goes on to a place, by one answer -/
theorem rfs_one {a : Int} (ha : a ≠ -1) : ∀ {P : List C3}, (rfs P).Nodup → ∀ {p q : Nat} {c d : C3}, P[p]? = some c → P[q]? = some d → (c.2.1 = a ∨ c.2.2 = a) → (d.2.1 = a ∨ d.2.2 = a) → p = q ∧ ¬ (c.2.1 = a ∧ c.2.2 = a)
 | [], _, p, q, c, d, h, _, _, _ => by simp at h
 | (k, no, ye) :: r, hn, p, q, c, d, hp, hq, hc, hd => by
  simp only [rfs] at hn
  obtain ⟨n1, n2, n3⟩ := List.nodup_append.1 hn
  have head : (no = a ∨ ye = a) → a ∉ rfs r := fun h hm => by
   have : a ∈ (if no = -1 then [] else [no]) ++ (if ye = -1 then [] else [ye]) := by
    rw [List.mem_append]
    rcases h with h | h
    ·subst h; left; rw [if_neg ha]; simp
    ·subst h; right; rw [if_neg ha]; simp
   exact n3 a this a hm rfl
  have two : ¬ (no = a ∧ ye = a) := by
   rintro ⟨rfl, rfl⟩
   rw [if_neg ha] at n1
   simp at n1
  cases p with
  | zero =>
   simp only [List.getElem?_cons_zero, Option.some.injEq] at hp
   subst hp
   simp only at hc
   cases q with
   | zero => exact ⟨rfl, two⟩
   | succ q => exact absurd (rfs_mem.2 ⟨ha, q, d, by simpa using hq, hd⟩) (head hc)
  | succ p =>
   cases q with
   | zero =>
    simp only [List.getElem?_cons_zero, Option.some.injEq] at hq
    subst hq
    exact absurd (rfs_mem.2 ⟨ha, p, c, by simpa using hp, hc⟩) (head hd)
   | succ q =>
    obtain ⟨e, w⟩ := rfs_one ha n2 (p := p) (q := q) (by simpa using hp) (by simpa using hq) hc hd
    exact ⟨by omega, w⟩
theorem enc_stop {P : List C3} {L : LT} (h : enc P (-1) L) : L = .stop := by
 cases L with
 | stop => rfl
 | ask p k n y => obtain ⟨e, _⟩ := h; omega
theorem cnt_low {P : List C3} {a : Nat} : ∀ {L : LT} {b : Int}, enc P b L → (a : Int) < b → L.cnt a = 0
 | .stop, _, _, _ => rfl
 | .ask p k n y, b, ⟨e, no, ye, h1, h2, h3, h4, h5⟩, hb => by
  have c0 : n.cnt a = 0 := by
   rcases h2 with rfl | h
   ·rw [enc_stop h4]; rfl
   ·exact cnt_low h4 (by omega)
  have c1 : y.cnt a = 0 := by
   rcases h3 with rfl | h
   ·rw [enc_stop h5]; rfl
   ·exact cnt_low h5 (by omega)
  simp only [LT.cnt]
  rw [c0, c1, if_neg (by omega)]
/-- what goes on to a place is counted by the one that does -/
theorem rcn_le {P : List C3} (hn : (rfs P).Nodup) {a q : Nat} {d : C3} (hq : P[q]? = some d) (hd : d.2.1 = (a : Int) ∨ d.2.2 = (a : Int)) : ∀ {L : LT} {b : Int}, enc P b L → L.rcn P a ≤ L.cnt q
 | .stop, _, _ => Nat.le_refl _
 | .ask p k n y, b, ⟨e, no, ye, h1, h2, h3, h4, h5⟩ => by
  have c0 := rcn_le hn hq hd h4
  have c1 := rcn_le hn hq hd h5
  simp only [LT.rcn, LT.cnt]
  rw [h1]
  simp only [Option.map_some, Option.some.injEq]
  by_cases r0 : no = (a : Int)
  ·obtain ⟨e1, e2⟩ := rfs_one (a := (a : Int)) (by omega) hn h1 hq (.inl r0) hd
   have r1 : ¬ ye = (a : Int) := fun h => e2 ⟨r0, h⟩
   rw [if_pos r0, if_neg r1, if_pos e1]
   omega
  ·by_cases r1 : ye = (a : Int)
   ·obtain ⟨e1, e2⟩ := rfs_one (a := (a : Int)) (by omega) hn h1 hq (.inr r1) hd
    rw [if_neg r0, if_pos r1, if_pos e1]
    omega
   ·rw [if_neg r0, if_neg r1]
    omega
theorem rcn_pos {P : List C3} {a : Nat} : ∀ {L : LT} {b : Int}, enc P b L → 0 < L.rcn P a → ∃ (q : Nat) (d : C3), P[q]? = some d ∧ (d.2.1 = (a : Int) ∨ d.2.2 = (a : Int)) ∧ q < a
 | .stop, _, _, h => by simp [LT.rcn] at h
 | .ask p k n y, b, ⟨e, no, ye, h1, h2, h3, h4, h5⟩, h => by
  simp only [LT.rcn] at h
  rw [h1] at h
  simp only [Option.map_some, Option.some.injEq] at h
  by_cases r0 : no = (a : Int)
  ·exact ⟨p, _, h1, .inl r0, by rcases h2 with q | q <;> omega⟩
  ·by_cases r1 : ye = (a : Int)
   ·exact ⟨p, _, h1, .inr r1, by rcases h3 with q | q <;> omega⟩
   ·rw [if_neg r0, if_neg r1] at h
    by_cases h0 : 0 < n.rcn P a
    ·exact rcn_pos h4 h0
    ·exact rcn_pos h5 (by omega)
theorem cnt_le {P : List C3} (hn : (rfs P).Nodup) {L : LT} {b : Int} (h : enc P b L) : ∀ a : Nat, L.cnt a ≤ 1 := by
 intro a
 induction a using Nat.strongRecOn with
 | ind a ih =>
  have r := cnt_root (a := a) h
  by_cases hp : 0 < L.rcn P a
  ·obtain ⟨q, d, q1, q2, q3⟩ := rcn_pos h hp
   have le := rcn_le hn q1 q2 h
   by_cases e : b = (a : Int)
   ·have := cnt_low h (a := q) (by omega)
    omega
   ·rw [if_neg e] at r
    have := ih q q3
    omega
  ·rw [r]
   split <;> omega
def sN (f : Nat → Nat) : Nat → Nat
 | 0 => 0
 | n + 1 => sN f n + f n
theorem sN_add (f g : Nat → Nat) : ∀ n, sN (fun k => f k + g k) n = sN f n + sN g n
 | 0 => rfl
 | n + 1 => by simp only [sN, sN_add f g n]; omega
theorem sN_zero : ∀ n, sN (fun _ => 0) n = 0
 | 0 => rfl
 | n + 1 => by simp only [sN, sN_zero n]
theorem sN_at {p : Nat} : ∀ {n : Nat}, sN (fun a => if p = a then 1 else 0) n = if p < n then 1 else 0
 | 0 => by simp [sN]
 | n + 1 => by
  simp only [sN, sN_at (n := n)]
  by_cases e : p = n
  ·subst e; simp
  ·rw [if_neg e]
   by_cases h : p < n
   ·rw [if_pos h, if_pos (by omega)]
   ·rw [if_neg h, if_neg (by omega)]
theorem sN_full {f : Nat → Nat} : ∀ {n : Nat}, (∀ a, f a ≤ 1) → sN f n ≤ n ∧ (sN f n = n → ∀ a, a < n → f a = 1)
 | 0, _ => ⟨Nat.le_refl _, fun _ a h => by omega⟩
 | n + 1, h => by
  obtain ⟨h1, h2⟩ := sN_full (n := n) h
  have := h n
  simp only [sN]
  refine ⟨by omega, fun e a ha => ?_⟩
  by_cases q : a = n
  ·subst q; omega
  ·exact h2 (by omega) a (by omega)
theorem size_sN {P : List C3} : ∀ {L : LT} {b : Int}, enc P b L → sN (fun a => L.cnt a) P.length = L.size
 | .stop, _, _ => sN_zero _
 | .ask p k n y, b, ⟨e, no, ye, h1, h2, h3, h4, h5⟩ => by
  have hp : p < P.length := (List.getElem?_eq_some_iff.1 h1).1
  have c0 := size_sN h4
  have c1 := size_sN h5
  simp only [LT.cnt, LT.size]
  rw [sN_add, sN_add, sN_at, if_pos hp, c0, c1]
/-- each choice is come to -/
theorem all_in {P : List C3} (hn : (rfs P).Nodup) {L : LT} {b : Int} (h : enc P b L) (hs : L.size = P.length) : ∀ a, a < P.length → L.cnt a = 1 :=
 (sN_full (fun a => cnt_le hn h a)).2 (by rw [size_sN h, hs])
end
section
def PT.size : PT → Nat
 | .stop => 0
 | .ask _ n y => 1 + n.size + y.size
/-- where a tree begins that is written down from a place on -/
def rt : PT → Nat → Int
 | .stop, _ => -1
 | .ask _ _ _, b => (b : Int)
def ser : PT → Nat → List C3
 | .stop, _ => []
 | .ask k n y, b => ((k : Int), rt n (b + 1), rt y (b + 1 + n.size)) :: (ser n (b + 1) ++ ser y (b + 1 + n.size))
def lab : PT → Nat → LT
 | .stop, _ => .stop
 | .ask k n y, b => .ask b k (lab n (b + 1)) (lab y (b + 1 + n.size))
theorem lab_er : ∀ (x : PT) (b : Nat), (lab x b).er = x
 | .stop, _ => rfl
 | .ask k n y, b => by simp only [lab, LT.er]; rw [lab_er n, lab_er y]
theorem lab_size : ∀ (x : PT) (b : Nat), (lab x b).size = x.size
 | .stop, _ => rfl
 | .ask k n y, b => by simp only [lab, LT.size, PT.size]; rw [lab_size n, lab_size y]
theorem ser_len : ∀ (x : PT) (b : Nat), (ser x b).length = x.size
 | .stop, _ => rfl
 | .ask k n y, b => by simp only [ser, List.length_cons, List.length_append, PT.size]; rw [ser_len n, ser_len y]; omega
theorem rt_nxt {x : PT} {N p b : Nat} (h1 : p < b) (h2 : b + x.size ≤ N) : nxt N p (rt x b) := by
 cases x with
 | stop => exact .inl rfl
 | ask k n y =>
  right
  simp only [PT.size] at h2
  simp only [rt]
  omega
theorem enc_ser : ∀ (x : PT) (pre post : List C3) (b : Nat), pre.length = b → enc (pre ++ (ser x b ++ post)) (rt x b) (lab x b)
 | .stop, _, _, _, _ => rfl
 | .ask k n y, pre, post, b, hb => by
  have c0 := enc_ser n (pre ++ [((k : Int), rt n (b + 1), rt y (b + 1 + n.size))]) (ser y (b + 1 + n.size) ++ post) (b + 1) (by simp [hb])
  have c1 := enc_ser y (pre ++ [((k : Int), rt n (b + 1), rt y (b + 1 + n.size))] ++ ser n (b + 1)) post (b + 1 + n.size) (by simp [hb, ser_len]; omega)
  simp only [List.append_assoc, List.cons_append, List.nil_append] at c0 c1
  have hlen : (pre ++ (ser (.ask k n y) b ++ post)).length = b + (1 + n.size + y.size) + post.length := by
   simp only [List.length_append, ser_len, PT.size, hb]; omega
  refine ⟨rfl, rt n (b + 1), rt y (b + 1 + n.size), ?_, rt_nxt (by omega) (by omega), rt_nxt (by omega) (by omega), ?_, ?_⟩
  ·rw [List.getElem?_append_right (by omega), hb, Nat.sub_self]
   rfl
  ·simp only [ser, List.cons_append, List.append_assoc]
   exact c0
  ·simp only [ser, List.cons_append, List.append_assoc]
   exact c1
theorem rfs_app : ∀ p q : List C3, rfs (p ++ q) = rfs p ++ rfs q
 | [], q => rfl
 | (k, no, ye) :: r, q => by simp only [List.cons_append, rfs, rfs_app r q, List.append_assoc]
theorem rfs_ser : ∀ (x : PT) (b : Nat), (rfs (ser x b)).Nodup ∧ ∀ a ∈ rfs (ser x b), (b : Int) + 1 ≤ a ∧ a ≤ (b : Int) + x.size - 1
 | .stop, b => ⟨List.nodup_nil, fun a h => by cases h⟩
 | .ask k n y, b => by
  obtain ⟨n1, n2⟩ := rfs_ser n (b + 1)
  obtain ⟨y1, y2⟩ := rfs_ser y (b + 1 + n.size)
  have rn : ∀ a, a ∈ (if rt n (b + 1) = -1 then [] else [rt n (b + 1)]) → a = (b : Int) + 1 ∧ 1 ≤ n.size := fun a h => by
   cases n with
   | stop => simp [rt] at h
   | ask k' n' y' =>
    rw [if_neg (by simp only [rt]; omega)] at h
    have : a = ((b + 1 : Nat) : Int) := by simpa [rt] using h
    exact ⟨by omega, by simp only [PT.size]; omega⟩
  have ry : ∀ a, a ∈ (if rt y (b + 1 + n.size) = -1 then [] else [rt y (b + 1 + n.size)]) → a = (b : Int) + 1 + n.size ∧ 1 ≤ y.size := fun a h => by
   cases y with
   | stop => simp [rt] at h
   | ask k' n' y' =>
    rw [if_neg (by simp only [rt]; omega)] at h
    have : a = ((b + 1 + n.size : Nat) : Int) := by simpa [rt] using h
    exact ⟨by omega, by simp only [PT.size]; omega⟩
  have e : rfs (ser (.ask k n y) b) = (if rt n (b + 1) = -1 then [] else [rt n (b + 1)]) ++ (if rt y (b + 1 + n.size) = -1 then [] else [rt y (b + 1 + n.size)]) ++ (rfs (ser n (b + 1)) ++ rfs (ser y (b + 1 + n.size))) := by
   simp only [ser, rfs]
   rw [rfs_app]
  have s1 : (if rt n (b + 1) = -1 then [] else [rt n (b + 1)]).Nodup := by split <;> simp
  have s2 : (if rt y (b + 1 + n.size) = -1 then [] else [rt y (b + 1 + n.size)]).Nodup := by split <;> simp
  rw [e]
  refine ⟨List.nodup_append.2 ⟨List.nodup_append.2 ⟨s1, s2, fun a ha c hc hac => ?_⟩, List.nodup_append.2 ⟨n1, y1, fun a ha c hc hac => ?_⟩, fun a ha c hc hac => ?_⟩, fun a ha => ?_⟩
  ·have := rn a ha
   have := ry c hc
   omega
  ·have := n2 a ha
   have := y2 c hc
   omega
  ·rw [List.mem_append] at ha hc
   rcases ha with ha | ha <;> rcases hc with hc | hc
   ·have := rn a ha; have := n2 c hc; omega
   ·have := rn a ha; have := y2 c hc; omega
   ·have := ry a ha; have := n2 c hc; omega
   ·have := ry a ha; have := y2 c hc; omega
  ·simp only [List.mem_append] at ha
   simp only [PT.size]
   rcases ha with (ha | ha) | ha | ha
   ·have := rn a ha; omega
   ·have := ry a ha; omega
   ·have := n2 a ha; omega
   ·have := y2 a ha; omega
theorem size_dep : ∀ x : PT, x.size + 1 ≤ 2 ^ dpT x
 | .stop => Nat.le_refl _
 | .ask k n y => by
  have a := size_dep n
  have b := size_dep y
  have e1 : 2 ^ dpT n ≤ 2 ^ max (dpT n) (dpT y) := Nat.pow_le_pow_right (by omega) (Nat.le_max_left ..)
  have e2 : 2 ^ dpT y ≤ 2 ^ max (dpT n) (dpT y) := Nat.pow_le_pow_right (by omega) (Nat.le_max_right ..)
  simp only [PT.size, dpT]
  rw [Nat.pow_add, Nat.pow_one]
  omega
theorem okT_size {m : Nat} {t : List T} (hm : m ≤ 5) {x : PT} (h : okT m t (non m) x) : x.size ≤ 31 := by
 have d := dpT_le x (non m) (non_len _) h
 rw [uk_non] at d
 have s := size_dep x
 have : 2 ^ dpT x ≤ 2 ^ 5 := Nat.pow_le_pow_right (by omega) (by omega)
 omega
def oncB (P : List C3) : Bool := decide (rfs P).Nodup && (rfs P).all fun a => decide (0 ≤ a ∧ a < P.length)
theorem oncB_iff {P : List C3} : oncB P = true ↔ oncP P := by
 unfold oncB oncP
 simp only [Bool.and_eq_true, decide_eq_true_eq, List.all_eq_true]
def rot (P : List C3) : Int := if P = [] then -1 else 0
def pkOk (m : Int) (t : List T) (P : List C3) : Bool := tmOk m t && decide (P.length ≤ 31) && (ck m.toNat t P (m.toNat + 1) (rot P) (non m.toNat)).2 && ((ck m.toNat t P (m.toNat + 1) (rot P) (non m.toNat)).1 == (P.length : Int)) && oncB P
/-- a plan is a tree -/
structure isPl (m : Nat) (t : List T) (P : List C3) (L : LT) : Prop where
 e : enc P (rot P) L
 ok : okT m t (non m) L.er
 sz : L.size = P.length
 on : oncP P
 few : P.length ≤ 31
theorem pk_iff {m : Nat} {t : List T} {P : List C3} : pkOk m t P = true ↔ tmOk m t = true ∧ ∃ L, isPl m t P L := by
 unfold pkOk
 rw [Int.toNat_natCast]
 simp only [Bool.and_eq_true, decide_eq_true_eq, beq_iff_eq, oncB_iff]
 constructor
 ·rintro ⟨⟨⟨⟨h1, h2⟩, h3⟩, h4⟩, h5⟩
  refine ⟨h1, ?_⟩
  obtain ⟨L, e, o, z⟩ := ck_to (m + 1) (rot P) (non m) (non_len _) (by unfold rot; split; exact .inl rfl; exact .inr (Int.le_refl _)) h3
  exact ⟨L, e, o, by omega, h5, h2⟩
 ·rintro ⟨h1, L, e, o, z, h5, h2⟩
  have := ck_of L (m + 1) (rot P) (non m) (non_len _) (by rw [uk_non]; omega) e o
  rw [this]
  exact ⟨⟨⟨⟨h1, h2⟩, rfl⟩, by rw [z]⟩, h5⟩
/-- a tree that is written down is a plan -/
theorem ser_pl {m : Nat} {t : List T} (hm : m ≤ 5) {x : PT} (h : okT m t (non m) x) : isPl m t (ser x 0) (lab x 0) := by
 have z := okT_size hm h
 have e := enc_ser x [] [] 0 rfl
 obtain ⟨n1, n2⟩ := rfs_ser x 0
 rw [List.nil_append, List.append_nil] at e
 have r : rot (ser x 0) = rt x 0 := by cases x <;> simp [rot, ser, rt]
 refine ⟨by rw [r]; exact e, by rw [lab_er]; exact h, by rw [lab_size, ser_len], ⟨n1, fun a ha => ?_⟩, by rw [ser_len]; exact z⟩
 have := n2 a ha
 rw [ser_len]
 omega
end
section
theorem avT {us t : List T} {x : PT} (hx : okT us.length t (non us.length) x) : tA us (non us.length) x = sumTo (fun s => wt us s * tC us x s) (2 ^ us.length) := by
 rw [tA_sum x (non us.length) (non_len _) (non_all _) hx]
 refine sumTo_congr fun s _ => ?_
 rw [agB_non]
 rfl
theorem tC_le {us t : List T} (h : tsOk us = true) {x : PT} (hx : okT us.length t (non us.length) x) (s : Nat) : 0 ≤ tC us x s ∧ tC us x s ≤ cost us := by
 have h' := (tsOk_iff.1 h).2
 obtain ⟨_, h2, _⟩ := ask0_spec h hx s
 have := (cB_le h' (ask0 x s) us.length).2
 have cs := cost_sum us us.length
 rw [List.take_length] at cs
 rw [← cs] at this
 exact ⟨tC_nn h' x s, by omega⟩
end
section
attribute [-simp] DV.cells
attribute [local simp] sliceD cells_st cells_sl cells_i cells_y cells_b cells_s cells_w
theorem lend_e3 (P : List C3) : lendL (P.map e3) = P.map e3 := by rw [lendL_map, List.map_map]; rfl
theorem adopt_e3 (o : Bool) (P : List C3) : adoptL o (P.map e3) = P.map e3 := by rw [adoptL_map, List.map_map]; rfl
theorem new_e3 (P : List C3) : allNewL (P.map e3) = true := by rw [allNewL_all, List.all_map, List.all_eq_true]; intro x _; rfl
theorem al_e3 (P : List C3) : allOldL (P.map e3) = true := by rw [allOldL_all, List.all_map, List.all_eq_true]; intro x _; rfl
theorem tk_e3 (P : List C3) : List.take P.length (P.map e3) = P.map e3 := List.take_of_length_le (by simp)
theorem lt_e3 (n : Nat) (P : List C3) : lendL (List.take n (P.map e3)) = List.take n (P.map e3) := by rw [← List.map_take, lend_e3]
theorem at_e3 {P : List C3} {p : Nat} {c : C3} (h : P[p]? = some c) : atI (P.map e3) (p : Int) = some (.st [.i c.1, .i c.2.1, .i c.2.2]) := by
 simp only [atI, if_pos (Int.natCast_nonneg p)]
 show (P.map e3)[(p : Int).toNat]? = _
 rw [Int.toNat_natCast, List.getElem?_map, h]; rfl
theorem atN_e3 {P : List C3} {p : Nat} {c : C3} (h : P[p]? = some c) : atN (P.map e3) p = some (.st [.i c.1, .i c.2.1, .i c.2.2]) := by
 show (P.map e3)[p]? = _
 rw [List.getElem?_map, h]; rfl
attribute [local simp] lend_e3 adopt_e3 new_e3 al_e3 lt_e3
def C3.nx (c : C3) (b : Bool) : Int := if b then c.2.2 else c.2.1
end
section
attribute [-simp] DV.cells
attribute [local simp] sliceD cells_st cells_sl cells_i cells_y cells_b cells_s cells_w
attribute [local simp] lend_e3 adopt_e3 new_e3 al_e3 lt_e3
def avN (us : List T) (x : PT) (i : Nat) : Int := sumTo (fun s => wt us s * tC us x s) i
theorem avN_bd {us : List T} (h : tsOk us = true) {t : List T} {x : PT} (hx : okT us.length t (non us.length) x) {i : Nat} (hi : i ≤ 32) : 0 ≤ avN us x i ∧ avN us x i ≤ 20000000 := by
 have h' := tsOk_iff.1 h
 have := sumTo_nonneg (f := fun s => wt us s * tC us x s) (B := 349920) (by omega) i (fun s _ => by
  have w := wt_le h'.2 (by omega) (s : Int)
  have c := tC_le h hx s
  have cb := (cost_bound h'.2).2
  have : tC us x s ≤ 45 := by omega
  exact ⟨Int.mul_nonneg (by omega) c.1, Int.mul_le_mul w.2 this c.1 (by omega)⟩)
 unfold avN
 omega
end
section
attribute [-simp] DV.cells
attribute [local simp] sliceD cells_st cells_sl cells_i cells_y cells_b cells_s cells_w
attribute [local simp] lend_e3 adopt_e3 new_e3 al_e3 lt_e3
theorem c_samePlan_self (P : List C3) (hP : P.length ≤ 1000) : call lf n_laws_samePlan [.sl 0 (P.map e3), .sl 0 (P.map e3)] = some (.b true, []) := by
 rw [call_k lf n_laws_samePlan _ (F := F_laws_samePlan) rfl rfl]
 have L := loop_count (lf := lf) (L := F_laws_samePlan_L0) P.length (fun i => ⟨[(0, .sl 0 (P.map e3)), (1, .sl 0 (P.map e3)), (5, .i i)], []⟩) (x := .exit 0) (R := ⟨[(0, .sl 0 (P.map e3)), (1, .sl 0 (P.map e3)), (5, .i P.length)], []⟩) (fun i hi => by
  have AT := at_e3 (List.getElem?_eq_getElem hi)
  have w1 : wr ((i : Int) + 1) = ((i + 1 : Nat) : Int) := by rw [wr_id (by omega) (by omega)]; omega
  have hi' : (i : Int) < P.length := by omega
  generalize P[i].1 = x1 at *
  generalize P[i].2.1 = x2 at *
  generalize P[i].2.2 = x3 at *
  have lm : (P.map e3).length = P.length := by simp
  generalize P.map e3 = E at *
  simp [F_laws_samePlan_L0, hi', AT, w1, lm, eqI, -Int.natCast_add]) (by
  have lm : (P.map e3).length = P.length := by simp
  generalize P.map e3 = E at *
  simp [F_laws_samePlan_L0, lm]) (by intro h; cases h)
 simp only [Int.natCast_zero] at L
 change ex lf F_laws_samePlan_W0 _ = _ at L
 have lm : (P.map e3).length = P.length := by simp
 generalize P.map e3 = E at *
 simp [F_laws_samePlan, lm, L]
end
section
def aN : List Int → Nat
 | [] => 0
 | k :: r => (if k = -1 then 0 else 1) + 2 * aN r
def kn : List Int → Nat
 | [] => 0
 | k :: r => (if k = -1 then 0 else 1) + kn r
theorem aN_lt : ∀ ks : List Int, aN ks < 2 ^ ks.length
 | [] => by decide
 | k :: r => by
  have ih := aN_lt r
  simp only [aN, List.length_cons, Nat.pow_succ]
  split <;> omega
theorem aN_non : ∀ m : Nat, aN (non m) = 0
 | 0 => rfl
 | m + 1 => by
  show (if (-1 : Int) = -1 then 0 else 1) + 2 * aN (non m) = 0
  rw [aN_non m]
  rfl
theorem aN_b0 (k : Int) (r : List Int) : (aN (k :: r)).testBit 0 = !decide (k = -1) := by
 simp only [aN, Nat.testBit_zero]
 by_cases h : k = -1
 ·simp [h]
 ·simp [h]
theorem aN_div (k : Int) (r : List Int) : aN (k :: r) / 2 = aN r := by
 simp only [aN]
 split <;> omega
theorem aN_bs (k : Int) (r : List Int) (i : Nat) : (aN (k :: r)).testBit (i + 1) = (aN r).testBit i := by
 rw [Nat.testBit_succ, aN_div]
theorem aN_bit : ∀ {ks : List Int} {i : Nat}, i < ks.length → ((aN ks).testBit i = !decide (ks[i]? = some (-1)))
 | [], i, h => by simp at h
 | k :: r, 0, _ => by rw [aN_b0]; simp
 | k :: r, i + 1, h => by
  rw [aN_bs, aN_bit (ks := r) (by simpa using h)]
  simp
theorem aN_set {ks : List Int} {k : Nat} {b : Int} (hb : b ≠ -1) (h : ks[k]? = some (-1)) : aN (ks.set k b) = aN ks ||| 2 ^ k := by
 apply Nat.eq_of_testBit_eq
 intro i
 have hk := ks_ex h
 rw [Nat.testBit_or, Nat.testBit_two_pow]
 by_cases hi : i < ks.length
 ·rw [aN_bit (by simpa using hi), aN_bit hi]
  by_cases e : k = i
  ·subst e
   rw [List.getElem?_set_self hk]
   simp [hb]
  ·rw [List.getElem?_set_ne e]
   simp [e]
 ·have l1 := aN_lt (ks.set k b)
  have l2 := aN_lt ks
  rw [List.length_set] at l1
  have p : 2 ^ ks.length ≤ 2 ^ i := Nat.pow_le_pow_right (by omega) (by omega)
  rw [Nat.testBit_lt_two_pow (by omega), Nat.testBit_lt_two_pow (by omega)]
  simp; omega
/-- what agrees, as a number -/
def lfW (ks : List Int) : BitVec 32 := agW ks 0 (4294967295#32)
theorem lfW_bit {ks : List Int} (hk : ks.all kOk = true) (hl : ks.length ≤ 5) {s : Nat} (hs : s < 32) : (lfW ks).getLsbD s = agB ks s := by
 unfold lfW
 rw [agW_bit hk (by omega) hs, ones_bit hs]
 simp
theorem lfW_non (m : Nat) (hm : m ≤ 5) : lfW (non m) = 4294967295#32 := by
 apply BitVec.eq_of_getLsbD_eq
 intro s hs
 rw [lfW_bit (non_all m) (by rw [non_len]; exact hm) hs, agB_non, ones_bit hs]
def syW (k : Nat) (b : Bool) : BitVec 32 := if b then yesW k else ~~~ yesW k
theorem lfW_set {ks : List Int} {k : Nat} (b : Bool) (hk : ks.all kOk = true) (hl : ks.length ≤ 5) (h : ks[k]? = some (-1)) : lfW (ks.set k (bI b)) = lfW ks &&& syW k b := by
 have hk5 := ks_ex h
 apply BitVec.eq_of_getLsbD_eq
 intro s hs
 have y := yes_bit ⟨k, by omega⟩ ⟨s, hs⟩
 simp only at y
 rw [lfW_bit (kOk_set hk k b) (by simpa using hl) hs, agB_put h, BitVec.getLsbD_and, lfW_bit hk hl hs]
 unfold syW
 cases b with
 | true => rw [if_pos rfl, y]; cases agB ks s <;> cases s.testBit k <;> rfl
 | false =>
  rw [if_neg (by simp), BitVec.getLsbD_not, y]
  cases agB ks s <;> cases s.testBit k <;> simp [hs]
theorem vaW_fcd {m : Nat} {t : List T} {ks : List Int} (h1 : tmOk m t = true) (hl : ks.length = m) (hk : ks.all kOk = true) : vaW (tsW t) (lfW ks) = foT m t ks := by
 obtain ⟨h3, _, _⟩ := tmOk_iff.1 h1
 exact vaW_foT h1 (ksOk_iff.2 ⟨h3, by omega, hk⟩)
end
section
abbrev Pts := List (Option (List Int))
def cTo (m : Nat) (t : List T) (pts : Pts) (p a : Int) (ks : List Int) : Option Pts :=
 if a = -1 ∨ fcd m t ks = true then (if a = -1 ∧ fcd m t ks = true then some pts else none)
 else if p + 1 ≤ a ∧ a ≤ (pts.length : Int) - 1 ∧ pts[a.toNat]? = some none then some (pts.set a.toNat (some ks)) else none
def rn1 (m : Nat) (t : List T) (pts : Pts) (p : Nat) (c : C3) : Option Pts :=
 match pts[p]? with
 | some (some ks) => if (0 ≤ c.1 ∧ c.1 < m) ∧ ks[c.1.toNat]? = some (-1) then
   (cTo m t pts p c.2.1 (ks.set c.1.toNat 0)).bind fun q => cTo m t q p c.2.2 (ks.set c.1.toNat 1) else none
 | _ => none
def rnA (m : Nat) (t : List T) : List C3 → Nat → Pts → Option Pts
 | [], _, pts => some pts
 | c :: r, p, pts => (rn1 m t pts p c).bind fun q => rnA m t r (p + 1) q
def rnS (m : Nat) (t : List T) (P : List C3) : Option Pts := (cTo m t (List.replicate P.length none) (-1) (rot P) (non m)).bind fun q => rnA m t P 0 q
theorem cTo_of {m : Nat} {t : List T} {pts q : Pts} {p a : Int} {ks : List Int} (hp : -1 ≤ p) (h : cTo m t pts p a ks = some q) :
  (a = -1 ∧ fcd m t ks = true ∧ q = pts) ∨ (fcd m t ks = false ∧ p + 1 ≤ a ∧ a ≤ (pts.length : Int) - 1 ∧ pts[a.toNat]? = some none ∧ q = pts.set a.toNat (some ks)) := by
 unfold cTo at h
 split at h
 ·split at h
  ·rename_i h1
   injection h with h
   exact .inl ⟨h1.1, h1.2, h.symm⟩
  ·cases h
 ·rename_i h1
  split at h
  ·rename_i h2
   injection h with h
   rw [not_or] at h1
   exact .inr ⟨by simpa using h1.2, h2.1, h2.2.1, h2.2.2, h.symm⟩
  ·cases h
theorem cTo_len {m : Nat} {t : List T} {pts q : Pts} {p a : Int} {ks : List Int} (hp : -1 ≤ p) (h : cTo m t pts p a ks = some q) : q.length = pts.length := by
 rcases cTo_of hp h with ⟨_, _, rfl⟩ | ⟨_, _, _, _, rfl⟩
 ·rfl
 ·simp
/-- what is there stays -/
theorem cTo_keep {m : Nat} {t : List T} {pts q : Pts} {p a : Int} {ks : List Int} (hp : -1 ≤ p) (h : cTo m t pts p a ks = some q) {b : Nat} {ls : List Int} (hb : pts[b]? = some (some ls)) : q[b]? = some (some ls) := by
 rcases cTo_of hp h with ⟨_, _, rfl⟩ | ⟨_, _, _, h4, rfl⟩
 ·exact hb
 ·rw [List.getElem?_set_ne]
  ·exact hb
  ·intro e
   rw [e, hb] at h4
   cases h4
/-- one goes on to where it is noted -/
def go3 (m : Nat) (t : List T) (N : Nat) (pts : Pts) (p : Int) (a : Int) (ks : List Int) : Prop :=
 (a = -1 ∧ fcd m t ks = true) ∨ (p + 1 ≤ a ∧ a ≤ (N : Int) - 1 ∧ pts[a.toNat]? = some (some ks))
theorem go3_of {m : Nat} {t : List T} {pts q : Pts} {p a : Int} {ks : List Int} (hp : -1 ≤ p) (h : cTo m t pts p a ks = some q) : go3 m t pts.length q p a ks := by
 rcases cTo_of hp h with ⟨h1, h2, rfl⟩ | ⟨h1, h2, h3, h4, rfl⟩
 ·exact .inl ⟨h1, h2⟩
 ·refine .inr ⟨h2, h3, ?_⟩
  rw [List.getElem?_set_self (by omega)]
structure Inv (m : Nat) (t : List T) (P : List C3) (p : Nat) (pts : Pts) : Prop where
 len : pts.length = P.length
 nd : (rfs (P.take p)).Nodup
 rng : ∀ a ∈ rfs (P.take p), 1 ≤ a ∧ a < P.length
 iff_ : ∀ a : Nat, a < P.length → (pts[a]? ≠ some none ↔ (a = 0 ∨ (a : Int) ∈ rfs (P.take p)))
 ok : ∀ (a : Nat) (ks : List Int), pts[a]? = some (some ks) → ks.length = m ∧ ks.all kOk = true ∧ fcd m t ks = false
 loc : ∀ q : Nat, q < p → ∃ (ks : List Int) (k no ye : Int), P[q]? = some (k, no, ye) ∧ pts[q]? = some (some ks) ∧ (0 ≤ k ∧ k < m) ∧ ks[k.toNat]? = some (-1) ∧ go3 m t P.length pts q no (ks.set k.toNat 0) ∧ go3 m t P.length pts q ye (ks.set k.toNat 1)
theorem go3_keep {m : Nat} {t : List T} {N : Nat} {pts q : Pts} {p a : Int} {ks : List Int} (hk : ∀ (b : Nat) (ls : List Int), pts[b]? = some (some ls) → q[b]? = some (some ls)) (h : go3 m t N pts p a ks) : go3 m t N q p a ks := by
 rcases h with h | ⟨h1, h2, h3⟩
 ·exact .inl h
 ·exact .inr ⟨h1, h2, hk _ _ h3⟩
/-- what one step adds to what is gone on to -/
def ad1 (a : Int) : List Int := if a = -1 then [] else [a]
theorem step_iff {m : Nat} {t : List T} {N : Nat} {pts q : Pts} {p a : Int} {ks : List Int} {R : List Int} (hp : 0 ≤ p) (hN : pts.length = N) (h : cTo m t pts p a ks = some q) (nd : R.Nodup) (rng : ∀ a ∈ R, 1 ≤ a ∧ a < N)
  (hi : ∀ a : Nat, a < N → (pts[a]? ≠ some none ↔ (a = 0 ∨ (a : Int) ∈ R))) :
  (R ++ ad1 a).Nodup ∧ (∀ x ∈ R ++ ad1 a, 1 ≤ x ∧ x < N) ∧ ∀ b : Nat, b < N → (q[b]? ≠ some none ↔ (b = 0 ∨ (b : Int) ∈ R ++ ad1 a)) := by
 rcases cTo_of (by omega) h with ⟨rfl, _, rfl⟩ | ⟨_, h2, h3, h4, rfl⟩
 ·have e : ad1 (-1) = [] := rfl
  rw [e, List.append_nil]
  exact ⟨nd, rng, hi⟩
 ·have e : ad1 a = [a] := if_neg (by omega)
  rw [e]
  have ha : a.toNat < N := by omega
  have hn : a ∉ R := fun hm => by
   have := (hi a.toNat ha).2 (.inr (by rw [Int.toNat_of_nonneg (by omega)]; exact hm))
   exact this h4
  refine ⟨List.nodup_append.2 ⟨nd, by simp, fun x hx y hy e => ?_⟩, fun x hx => ?_, fun b hb => ?_⟩
  ·have : y = a := by simpa using hy
   exact hn (by rw [← this, ← e]; exact hx)
  ·rcases List.mem_append.1 hx with hx | hx
   ·exact rng x hx
   ·have : x = a := by simpa using hx
    omega
  ·by_cases eb : a.toNat = b
   ·subst eb
    rw [List.getElem?_set_self (by omega)]
    constructor
    ·intro _
     right
     rw [Int.toNat_of_nonneg (by omega)]
     simp
    ·intro _ h
     cases h
   ·rw [List.getElem?_set_ne eb, hi b hb]
    have : (b : Int) ≠ a := by omega
    simp [this]
theorem step_ok {m : Nat} {t : List T} {pts q : Pts} {p a : Int} {ks : List Int} (hp : -1 ≤ p) (h : cTo m t pts p a ks = some q) (hl : ks.length = m) (hk : ks.all kOk = true)
  (ho : ∀ (a : Nat) (ks : List Int), pts[a]? = some (some ks) → ks.length = m ∧ ks.all kOk = true ∧ fcd m t ks = false) :
  ∀ (a : Nat) (ks : List Int), q[a]? = some (some ks) → ks.length = m ∧ ks.all kOk = true ∧ fcd m t ks = false := by
 intro b ls hb
 rcases cTo_of hp h with ⟨_, _, rfl⟩ | ⟨h1, h2, h3, h4, rfl⟩
 ·exact ho b ls hb
 ·by_cases eb : a.toNat = b
  ·subst eb
   rw [List.getElem?_set_self (by omega)] at hb
   simp only [Option.some.injEq] at hb
   subst hb
   exact ⟨hl, hk, h1⟩
  ·rw [List.getElem?_set_ne eb] at hb
   exact ho b ls hb
theorem rfs_snoc (P : List C3) (k no ye : Int) : rfs (P ++ [(k, no, ye)]) = rfs P ++ ad1 no ++ ad1 ye := by
 rw [rfs_app]
 simp only [rfs, List.append_nil]
 unfold ad1
 rw [List.append_assoc]
theorem take_snoc {P : List C3} {p : Nat} {c : C3} (h : P[p]? = some c) : P.take (p + 1) = P.take p ++ [c] := by
 rw [List.take_add_one, h]
 rfl
theorem inv_step {m : Nat} {t : List T} {P : List C3} {p : Nat} {pts q : Pts} {c : C3} (hc : P[p]? = some c) (h : Inv m t P p pts) (hr : rn1 m t pts p c = some q) : Inv m t P (p + 1) q := by
 obtain ⟨k, no, ye⟩ := c
 unfold rn1 at hr
 split at hr
 ·rename_i ks hks
  split at hr
  ·rename_i hk
   simp only [Option.bind_eq_some_iff] at hr
   obtain ⟨q1, h1, h2⟩ := hr
   obtain ⟨o1, o2, o3⟩ := h.ok p ks hks
   have hp : (0 : Int) ≤ p := by omega
   have l1 := cTo_len (by omega) h1
   have l2 := cTo_len (by omega) h2
   have k0 : (ks.set k.toNat 0).all kOk = true := kOk_set o2 k.toNat false
   have k1 : (ks.set k.toNat 1).all kOk = true := kOk_set o2 k.toNat true
   obtain ⟨n1, r1, i1⟩ := step_iff hp h.len h1 h.nd h.rng h.iff_
   obtain ⟨n2, r2, i2⟩ := step_iff hp (l1.trans h.len) h2 n1 r1 i1
   have ok1 := step_ok (by omega) h1 (by simpa using o1) k0 h.ok
   have ok2 := step_ok (by omega) h2 (by simpa using o1) k1 ok1
   have kp : ∀ (b : Nat) (ls : List Int), pts[b]? = some (some ls) → q[b]? = some (some ls) := fun b ls hb => cTo_keep (by omega) h2 (cTo_keep (by omega) h1 hb)
   refine ⟨(l2.trans l1).trans h.len, ?_, ?_, ?_, ok2, fun j hj => ?_⟩
   ·rw [take_snoc hc, rfs_snoc]; exact n2
   ·rw [take_snoc hc, rfs_snoc]; exact r2
   ·rw [take_snoc hc, rfs_snoc]; exact i2
   ·by_cases e : j = p
    ·subst e
     have g1 := go3_of (by omega) h1
     have g2 := go3_of (by omega) h2
     rw [h.len] at g1
     rw [l1, h.len] at g2
     exact ⟨ks, k, no, ye, hc, kp _ _ hks, hk.1, hk.2, go3_keep (fun b ls hb => cTo_keep (by omega) h2 hb) g1, g2⟩
    ·obtain ⟨ks', k', no', ye', a1, a2, a3, a4, a5, a6⟩ := h.loc j (by omega)
     exact ⟨ks', k', no', ye', a1, kp _ _ a2, a3, a4, go3_keep kp a5, go3_keep kp a6⟩
  ·cases hr
 ·cases hr
theorem inv_all {m : Nat} {t : List T} {P : List C3} : ∀ (rest : List C3) (p : Nat) (pts q : Pts), P.drop p = rest → p ≤ P.length → Inv m t P p pts → rnA m t rest p pts = some q → Inv m t P P.length q
 | [], p, pts, q, hd, hp, h, hr => by
  have : P.length ≤ p := List.drop_eq_nil_iff.1 hd
  have e : p = P.length := by omega
  subst e
  simp only [rnA, Option.some.injEq] at hr
  subst hr
  exact h
 | c :: r, p, pts, q, hd, hp, h, hr => by
  simp only [rnA, Option.bind_eq_some_iff] at hr
  obtain ⟨q1, h1, h2⟩ := hr
  have hc : P[p]? = some c := by
   have : (P.drop p)[0]? = some c := by rw [hd]; rfl
   rw [List.getElem?_drop, Nat.add_zero] at this
   exact this
  have hlt : p < P.length := (List.getElem?_eq_some_iff.1 hc).1
  have hd' : P.drop (p + 1) = r := by
   rw [← List.drop_drop, hd]
   rfl
  exact inv_all r (p + 1) q1 q hd' (by omega) (inv_step hc h h1) h2
theorem inv_start {m : Nat} {t : List T} {P : List C3} {q : Pts} (h : cTo m t (List.replicate P.length none) (-1) (rot P) (non m) = some q) : Inv m t P 0 q ∧ go3 m t P.length q (-1) (rot P) (non m) := by
 have g := go3_of (by omega) h
 have l := cTo_len (by omega) h
 rw [List.length_replicate] at g l
 have ok := step_ok (by omega) h (non_len m) (non_all m) (fun a ks ha => by
  rw [List.getElem?_replicate] at ha
  split at ha <;> cases ha)
 refine ⟨⟨l, by simp [rfs], by simp [rfs], fun a ha => ?_, ok, fun j hj => by omega⟩, g⟩
 have hP : P ≠ [] := fun e => by subst e; simp at ha
 have r0 : rot P = 0 := if_neg hP
 rcases cTo_of (by omega) h with ⟨h1, _, _⟩ | ⟨_, _, _, _, rfl⟩
 ·omega
 ·rw [r0]
  simp only [List.take_zero, rfs, List.not_mem_nil, or_false, Int.toNat_zero]
  by_cases e : a = 0
  ·subst e
   rw [List.getElem?_set_self (by simpa using ha)]
   simp
  ·rw [List.getElem?_set_ne (by omega), List.getElem?_replicate, if_pos ha]
   simp [e]
theorem inv_tree {m : Nat} {t : List T} {P : List C3} {pts : Pts} (h : Inv m t P P.length pts) : ∀ (n a : Nat) (ks : List Int), P.length - a ≤ n → pts[a]? = some (some ks) → ∃ L, enc P (a : Int) L ∧ okT m t ks L.er
 | 0, a, ks, hn, ha => by
  have := (List.getElem?_eq_some_iff.1 ha).1
  rw [h.len] at this
  omega
 | n + 1, a, ks, hn, ha => by
  have hlt := (List.getElem?_eq_some_iff.1 ha).1
  rw [h.len] at hlt
  obtain ⟨ks', k, no, ye, a1, a2, a3, a4, a5, a6⟩ := h.loc a hlt
  rw [ha] at a2
  simp only [Option.some.injEq] at a2
  subst a2
  obtain ⟨_, _, o3⟩ := h.ok a ks ha
  have key : ∀ (b : Int) (ls : List Int), go3 m t P.length pts a b ls → ∃ L, enc P b L ∧ okT m t ls L.er ∧ nxt P.length a b := fun b ls g => by
   rcases g with ⟨rfl, g⟩ | ⟨g1, g2, g3⟩
   ·exact ⟨.stop, rfl, g, .inl rfl⟩
   ·obtain ⟨L, l1, l2⟩ := inv_tree h n b.toNat ls (by omega) g3
    rw [Int.toNat_of_nonneg (by omega)] at l1
    exact ⟨L, l1, l2, .inr ⟨g1, g2⟩⟩
  obtain ⟨L0, e0, k0, x0⟩ := key no _ a5
  obtain ⟨L1, e1, k1, x1⟩ := key ye _ a6
  exact ⟨.ask a k.toNat L0 L1, ⟨rfl, no, ye, by rw [a1, Int.toNat_of_nonneg a3.1], x0, x1, e0, e1⟩, ⟨o3, a4, k0, k1⟩⟩
theorem rcn_ge {P : List C3} {a q : Nat} {d : C3} (hq : P[q]? = some d) (hd : d.2.1 = (a : Int) ∨ d.2.2 = (a : Int)) : ∀ {L : LT}, L.cnt q ≤ L.rcn P a
 | .stop => Nat.le_refl _
 | .ask p k n y => by
  have c0 := rcn_ge hq hd (L := n)
  have c1 := rcn_ge hq hd (L := y)
  simp only [LT.rcn, LT.cnt]
  by_cases e : p = q
  ·subst e
   rw [if_pos rfl, hq]
   simp only [Option.map_some, Option.some.injEq]
   rcases hd with hd | hd
   ·rw [if_pos hd]; omega
   ·rw [if_pos hd]; omega
  ·rw [if_neg e]; omega
theorem sN_one : ∀ {f : Nat → Nat} {n : Nat}, (∀ a, a < n → f a = 1) → sN f n = n
 | f, 0, _ => rfl
 | f, n + 1, h => by
  simp only [sN]
  rw [sN_one (f := f) (n := n) (fun a ha => h a (by omega)), h n (by omega)]
theorem inv_pl {m : Nat} {t : List T} {P : List C3} {pts : Pts} (h31 : P.length ≤ 31) (h : Inv m t P P.length pts) (hg : go3 m t P.length pts (-1) (rot P) (non m)) : ∃ L, isPl m t P L := by
 have nd := h.nd
 have rng := h.rng
 have hi := h.iff_
 rw [List.take_length] at nd rng hi
 have ht : ∃ L, enc P (rot P) L ∧ okT m t (non m) L.er := by
  rcases hg with ⟨g1, g2⟩ | ⟨g1, g2, g3⟩
  ·rw [g1]; exact ⟨.stop, rfl, g2⟩
  ·obtain ⟨L, l1, l2⟩ := inv_tree h P.length (rot P).toNat (non m) (by omega) g3
   rw [Int.toNat_of_nonneg (by omega)] at l1
   exact ⟨L, l1, l2⟩
 obtain ⟨L, e, ok⟩ := ht
 have all1 : ∀ a, a < P.length → 0 < L.cnt a := by
  intro a
  induction a using Nat.strongRecOn with
  | ind a ih =>
   intro ha
   have r := cnt_root (a := a) e
   by_cases a0 : a = 0
   ·subst a0
    have : rot P = 0 := if_neg (fun e => by subst e; simp at ha)
    rw [this] at r
    simp at r
    omega
   ·obtain ⟨ks, k, no, ye, _, a2, _⟩ := h.loc a ha
    have hm := (hi a ha).1 (by rw [a2]; simp)
    rcases hm with hm | hm
    ·exact absurd hm a0
    ·obtain ⟨_, q, d, d1, d2⟩ := rfs_mem.1 hm
     obtain ⟨ks', k', no', ye', b1, b2, b3, b4, b5, b6⟩ := h.loc q (List.getElem?_eq_some_iff.1 d1).1
     rw [d1] at b1
     simp only [Option.some.injEq] at b1
     subst b1
     have hqa : q < a := by
      rcases d2 with d2 | d2
      ·simp only at d2
       subst d2
       rcases b5 with ⟨b, _⟩ | ⟨b, _⟩ <;> omega
      ·simp only at d2
       subst d2
       rcases b6 with ⟨b, _⟩ | ⟨b, _⟩ <;> omega
     have c := ih q hqa (by omega)
     have g := rcn_ge d1 d2 (L := L)
     omega
 have le1 := cnt_le nd e
 refine ⟨L, e, ok, ?_, ⟨nd, fun a ha => by have := rng a ha; omega⟩, h31⟩
 rw [← size_sN e]
 exact sN_one fun a ha => by have := all1 a ha; have := le1 a; omega
theorem cTo_some {m : Nat} {t : List T} {pts : Pts} {p a : Int} {ks : List Int} (h : (a = -1 ∧ fcd m t ks = true) ∨ (a ≠ -1 ∧ fcd m t ks = false ∧ p + 1 ≤ a ∧ a ≤ (pts.length : Int) - 1 ∧ pts[a.toNat]? = some none)) : ∃ q, cTo m t pts p a ks = some q := by
 unfold cTo
 rcases h with ⟨h1, h2⟩ | ⟨h1, h2, h3⟩
 ·exact ⟨pts, by rw [if_pos (.inl h1), if_pos ⟨h1, h2⟩]⟩
 ·exact ⟨_, by rw [if_neg (by rw [h2]; rintro (h | h); exact h1 h; cases h), if_pos h3]⟩
/-- what is noted is come to by the tree -/
def CIv (m : Nat) (t : List T) (P : List C3) (pts : Pts) : Prop := ∀ (a : Nat) (ks : List Int), pts[a]? = some (some ks) → ∃ M, enc P (a : Int) M ∧ okT m t ks M.er
theorem civ_step {m : Nat} {t : List T} {P : List C3} {pts q : Pts} {p a : Int} {ks : List Int} (hp : -1 ≤ p) (h : cTo m t pts p a ks = some q) (hc : CIv m t P pts) {M : LT} (hM : enc P a M) (hk : okT m t ks M.er) : CIv m t P q := by
 intro b ls hb
 rcases cTo_of hp h with ⟨_, _, rfl⟩ | ⟨h1, h2, h3, h4, rfl⟩
 ·exact hc b ls hb
 ·by_cases eb : a.toNat = b
  ·subst eb
   rw [List.getElem?_set_self (by omega)] at hb
   simp only [Option.some.injEq] at hb
   subst hb
   rw [Int.toNat_of_nonneg (by omega)]
   exact ⟨M, hM, hk⟩
  ·rw [List.getElem?_set_ne eb] at hb
   exact hc b ls hb
theorem go_some {m : Nat} {t : List T} {P : List C3} {pts : Pts} {p : Nat} {a : Int} {ks : List Int} {M : LT} (hM : enc P a M) (hk : okT m t ks M.er) (hn : nxt P.length p a) (hl : pts.length = P.length) (hf : a ≠ -1 → pts[a.toNat]? = some none) : ∃ q, cTo m t pts p a ks = some q := by
 apply cTo_some
 cases M with
 | stop => exact .inl ⟨hM, hk⟩
 | ask p' k n y =>
  obtain ⟨e, _⟩ := hM
  obtain ⟨o1, _⟩ := hk
  have ha : a ≠ -1 := by omega
  rcases hn with hn | hn
  ·exact absurd hn ha
  ·exact .inr ⟨ha, o1, hn.1, by rw [hl]; exact hn.2, hf ha⟩
theorem none_of {pts : Pts} {a : Nat} (h : a < pts.length) (hn : ¬ pts[a]? ≠ some none) : pts[a]? = some none := Classical.not_not.1 hn
theorem pl_step {m : Nat} {t : List T} {P : List C3} {L : LT} (hL : isPl m t P L) {p : Nat} {c : C3} (hc : P[p]? = some c) {pts : Pts} (h : Inv m t P p pts) (hv : CIv m t P pts) : ∃ q, rn1 m t pts p c = some q ∧ CIv m t P q := by
 have hlt : p < P.length := (List.getElem?_eq_some_iff.1 hc).1
 have nd := hL.on.1
 -- it has been come to
 have hin : p = 0 ∨ (p : Int) ∈ rfs (P.take p) := by
  by_cases p0 : p = 0
  ·exact .inl p0
  ·right
   have c1 := all_in nd hL.e hL.sz p hlt
   have r := cnt_root (a := p) hL.e
   have rp : ¬ rot P = (p : Int) := by
    unfold rot
    split <;> omega
   rw [if_neg rp] at r
   obtain ⟨q, d, q1, q2, q3⟩ := rcn_pos hL.e (a := p) (by omega)
   refine rfs_mem.2 ⟨by omega, q, d, ?_, q2⟩
   rw [List.getElem?_take, if_pos q3]
   exact q1
 have hne := (h.iff_ p hlt).2 hin
 cases hpp : pts[p]? with
 | none =>
  rw [List.getElem?_eq_none_iff, h.len] at hpp
  omega
 | some o =>
  cases o with
  | none => exact absurd hpp hne
  | some ks =>
   obtain ⟨M, m1, m2⟩ := hv p ks hpp
   obtain ⟨o1, o2, o3⟩ := h.ok p ks hpp
   cases M with
   | stop =>
    have m1 : (p : Int) = -1 := m1
    omega
   | ask p' k n y =>
    obtain ⟨e, no, ye, d1, d2, d3, d4, d5⟩ := m1
    obtain ⟨u1, u2, u3, u4⟩ := m2
    have ep : p = p' := by omega
    subst ep
    rw [hc] at d1
    simp only [Option.some.injEq] at d1
    subst d1
    have hk : k < m := by rw [← o1]; exact ks_ex u2
    have ndp : (rfs (P.take p) ++ ad1 no ++ ad1 ye).Nodup := by
     rw [← rfs_snoc _ (k : Int), ← take_snoc hc]
     have : rfs P = rfs (P.take (p + 1)) ++ rfs (P.drop (p + 1)) := by rw [← rfs_app, List.take_append_drop]
     rw [this] at nd
     exact (List.nodup_append.1 nd).1
    obtain ⟨nd1, _, nd3⟩ := List.nodup_append.1 ndp
    obtain ⟨_, _, nd2⟩ := List.nodup_append.1 nd1
    have free0 : no ≠ -1 → pts[no.toNat]? = some none := fun hno => by
     have hr : (p : Int) + 1 ≤ no ∧ no ≤ (P.length : Int) - 1 := d2.resolve_left hno
     refine none_of (by rw [h.len]; omega) (fun hx => ?_)
     rcases (h.iff_ no.toNat (by omega)).1 hx with h0 | h0
     ·omega
     ·rw [Int.toNat_of_nonneg (by omega)] at h0
      exact nd2 no h0 no (by unfold ad1; rw [if_neg hno]; simp) rfl
    obtain ⟨q1, c1⟩ := go_some (p := p) d4 u3 d2 h.len free0
    have iv1 := step_iff (by omega) h.len c1 h.nd h.rng h.iff_
    have l1 := cTo_len (by omega) c1
    have free1 : ye ≠ -1 → q1[ye.toNat]? = some none := fun hye => by
     have hr : (p : Int) + 1 ≤ ye ∧ ye ≤ (P.length : Int) - 1 := d3.resolve_left hye
     refine none_of (by rw [l1, h.len]; omega) (fun hx => ?_)
     rcases (iv1.2.2 ye.toNat (by omega)).1 hx with h0 | h0
     ·omega
     ·rw [Int.toNat_of_nonneg (by omega)] at h0
      exact nd3 ye h0 ye (by unfold ad1; rw [if_neg hye]; simp) rfl
    obtain ⟨q2, c2⟩ := go_some (p := p) d5 u4 d3 (l1.trans h.len) free1
    refine ⟨q2, ?_, civ_step (by omega) c2 (civ_step (by omega) c1 hv d4 u3) d5 u4⟩
    unfold rn1
    rw [hpp]
    simp only [Int.toNat_natCast]
    rw [if_pos ⟨⟨by omega, by omega⟩, u2⟩, c1]
    exact c2
theorem pl_all {m : Nat} {t : List T} {P : List C3} {L : LT} (hL : isPl m t P L) : ∀ (rest : List C3) (p : Nat) (pts : Pts), P.drop p = rest → p ≤ P.length → Inv m t P p pts → CIv m t P pts → ∃ q, rnA m t rest p pts = some q
 | [], p, pts, _, _, _, _ => ⟨pts, rfl⟩
 | c :: r, p, pts, hd, hp, h, hv => by
  have hc : P[p]? = some c := by
   have : (P.drop p)[0]? = some c := by rw [hd]; rfl
   rw [List.getElem?_drop, Nat.add_zero] at this
   exact this
  have hlt : p < P.length := (List.getElem?_eq_some_iff.1 hc).1
  have hd' : P.drop (p + 1) = r := by
   rw [← List.drop_drop, hd]
   rfl
  obtain ⟨q1, h1, h2⟩ := pl_step hL hc h hv
  obtain ⟨q, h3⟩ := pl_all hL r (p + 1) q1 hd' (by omega) (inv_step hc h h1) h2
  exact ⟨q, by simp only [rnA]; rw [h1]; exact h3⟩
theorem rnA_keep {m : Nat} {t : List T} : ∀ (rest : List C3) (p : Nat) (a b : Pts), rnA m t rest p a = some b → ∀ (x : Nat) (ls : List Int), a[x]? = some (some ls) → b[x]? = some (some ls) := by
 intro rest
 induction rest with
 | nil =>
  intro p a b h x ls hx
  simp only [rnA, Option.some.injEq] at h
  subst h
  exact hx
 | cons c r ih =>
  intro p a b h x ls hx
  simp only [rnA, Option.bind_eq_some_iff] at h
  obtain ⟨a1, e1, e2⟩ := h
  refine ih (p + 1) a1 b e2 x ls ?_
  unfold rn1 at e1
  split at e1
  ·split at e1
   ·simp only [Option.bind_eq_some_iff] at e1
    obtain ⟨a2, f1, f2⟩ := e1
    exact cTo_keep (by omega) f2 (cTo_keep (by omega) f1 hx)
   ·cases e1
  ·cases e1
theorem rn_keep {m : Nat} {t : List T} {N : Nat} {x a : Int} {ks : List Int} (rest : List C3) (p : Nat) (q0 q : Pts) (h : rnA m t rest p q0 = some q) (g : go3 m t N q0 x a ks) : go3 m t N q x a ks := go3_keep (rnA_keep rest p q0 q h) g
theorem rnS_iff {m : Nat} {t : List T} {P : List C3} (h31 : P.length ≤ 31) : (∃ q, rnS m t P = some q) ↔ ∃ L, isPl m t P L := by
 constructor
 ·rintro ⟨q, h⟩
  unfold rnS at h
  simp only [Option.bind_eq_some_iff] at h
  obtain ⟨q0, h1, h2⟩ := h
  obtain ⟨i, g⟩ := inv_start h1
  have i2 := inv_all P 0 q0 q rfl (Nat.zero_le _) i h2
  refine inv_pl h31 i2 ?_
  exact rn_keep P 0 q0 q h2 g
 ·rintro ⟨L, hL⟩
  unfold rnS
  have hs : ∃ q, cTo m t (List.replicate P.length none) (-1) (rot P) (non m) = some q := by
   apply cTo_some
   have he := hL.e
   have hk := hL.ok
   cases L with
   | stop => exact .inl ⟨he, hk⟩
   | ask p k n y =>
    obtain ⟨e, no, ye, d1, _⟩ := he
    have hlt : p < P.length := (List.getElem?_eq_some_iff.1 d1).1
    have r0 : rot P = 0 := if_neg (fun e => by subst e; simp at hlt)
    refine .inr ⟨by omega, hk.1, by omega, by rw [List.length_replicate]; omega, ?_⟩
    rw [r0, List.getElem?_replicate, if_pos (by simp; omega)]
  obtain ⟨q0, h1⟩ := hs
  obtain ⟨i, g⟩ := inv_start h1
  have cv : CIv m t P q0 := civ_step (by omega) h1 (fun a ks ha => by
   rw [List.getElem?_replicate] at ha
   split at ha <;> cases ha) hL.e hL.ok
  obtain ⟨q, h2⟩ := pl_all hL P 0 q0 rfl (Nat.zero_le _) i cv
  exact ⟨q, by rw [h1]; exact h2⟩
end
section
attribute [-simp] DV.cells
attribute [local simp] sliceD cells_st cells_sl cells_i cells_y cells_b cells_s cells_w
attribute [local simp] lend_e3 adopt_e3 new_e3 al_e3 lt_e3
def pv (m a : Int) (w v : BitVec 32) : DV := .st [.i m, .i a, .w w, .w v]
/-- the point at which so much is known -/
def pD (m : Nat) (t : List T) (ks : List Int) : DV := pv m (aN ks) (lfW ks) (tsW t)
theorem c_isForced {m : Nat} {t : List T} {ks : List Int} (h1 : tmOk m t = true) (hl : ks.length = m) (hk : ks.all kOk = true) : call lf n_impl_point_isForced [pD m t ks] = some (.b (fcd m t ks), []) := by
 have C := c_impl_valueAmong (tsW t) (lfW ks)
 rw [vaW_fcd h1 hl hk] at C
 unfold pD pv
 rw [call_k lf n_impl_point_isForced _ (F := F_impl_point_isForced) rfl rfl]
 unfold fcd
 simp [F_impl_point_isForced, C]
/-- may it be asked? -/
def caK (m : Nat) (ks : List Int) (a : Int) : Bool := decide (0 ≤ a ∧ a < m) && decide (ks[a.toNat]? = some (-1))
theorem c_canAsk {m : Nat} {t : List T} {ks : List Int} (hm : m ≤ 5) (hl : ks.length = m) (a : Int) : call lf n_impl_point_canAsk [pD m t ks, .i a] = some (.b (caK m ks a), []) := by
 have W := c_impl_isWithin a 0 ((m : Int) - 1)
 have w1 : wr ((m : Int) - 1) = (m : Int) - 1 := wr_id (by omega) (by omega)
 unfold pD pv
 rw [call_k lf n_impl_point_canAsk _ (F := F_impl_point_canAsk) rfl rfl]
 unfold caK
 by_cases h : 0 ≤ a ∧ a < m
 ·obtain ⟨k, rfl⟩ := Int.eq_ofNat_of_zero_le h.1
  have e : decide (0 ≤ (k : Int) ∧ (k : Int) ≤ (m : Int) - 1) = true := decide_eq_true ⟨h.1, by omega⟩
  have H := c_impl_hasTest (aN ks) k (by omega)
  have hb := aN_bit (ks := ks) (i := k) (by omega)
  rw [hb] at H
  rw [e] at W
  rw [decide_eq_true h, Int.toNat_natCast]
  generalize aN ks = x at *
  generalize lfW ks = y at *
  simp [F_impl_point_canAsk, w1, W, H]
 ·have e : decide (0 ≤ a ∧ a ≤ (m : Int) - 1) = false := decide_eq_false (by omega)
  rw [e] at W
  rw [decide_eq_false h]
  simp [F_impl_point_canAsk, w1, W]
/-- nowhere nothing may be asked -/
theorem c_canAsk0 (a : Int) : call lf n_impl_point_canAsk [pv 0 0 (0#32) (0#32), .i a] = some (.b false, []) := by
 have W := c_impl_isWithin a 0 (-1)
 have e : decide (0 ≤ a ∧ a ≤ -1) = false := decide_eq_false (by omega)
 rw [e] at W
 have w1 : wr (-1) = -1 := wr_id (by omega) (by omega)
 unfold pv
 rw [call_k lf n_impl_point_canAsk _ (F := F_impl_point_canAsk) rfl rfl]
 simp [F_impl_point_canAsk, w1, W]
theorem c_answered {m : Nat} {t : List T} {ks : List Int} {k : Nat} (b : Bool) (hl : ks.length ≤ 5) (hk : ks.all kOk = true) (h : ks[k]? = some (-1)) : call lf n_impl_point_answered [pD m t ks, .i k, .i (bI b)] = some (pD m t (ks.set k (bI b)), []) := by
 have hlt := ks_ex h
 have C := c_impl_statesSaying (k := k) (by omega) (bI b)
 have e1 : syI k (bI b) = syW k b := by cases b <;> rfl
 rw [e1] at C
 have sh := shl1 (k := (k : Int)) (by omega) (by omega)
 have nk : ¬ (k : Int) < 0 := by omega
 have l := aN_lt ks
 have p : 2 ^ ks.length ≤ 2 ^ 5 := Nat.pow_le_pow_right (by omega) hl
 have p2 : 2 ^ k ≤ 2 ^ 5 := Nat.pow_le_pow_right (by omega) (by omega)
 have o := orI_nat (a := aN ks) (b := 2 ^ k) (by omega) (by omega)
 rw [← aN_set (b := bI b) (by cases b <;> simp [bI]) h] at o
 have e2 := lfW_set b hk hl h
 unfold pD pv
 rw [call_k lf n_impl_point_answered _ (F := F_impl_point_answered) rfl rfl]
 rw [e2]
 have o' : orI (aN ks) (2 ^ k) = aN (ks.set k (bI b)) := by
  have : ((2 ^ k : Nat) : Int) = 2 ^ k := by simp
  rw [← this]; exact o
 rw [Int.toNat_natCast] at sh
 generalize aN (ks.set k (bI b)) = x at *
 generalize aN ks = y at *
 generalize lfW ks = z at *
 generalize (2 : Int) ^ k = w at *
 simp [F_impl_point_answered, C, sh, nk, o']
theorem c_startOf {m : Nat} {t : List T} (hm : m ≤ 5) (h : tmOk m t = true) : call lf n_impl_startOf [.i m, .sl 0 (t.map e2)] = some (pD m t (non m), []) := by
 have C := c_impl_trueStates h
 unfold pD pv
 rw [aN_non, lfW_non m hm]
 rw [call_k lf n_impl_startOf _ (F := F_impl_startOf) rfl rfl]
 simp [F_impl_startOf, C]
theorem c_firstOf (P : List C3) (h : (P.length : Int) < 1099511627776) : call lf n_impl_firstOf [.sl 0 (P.map e3)] = some (.i (rot P), []) := by
 rw [call_k lf n_impl_firstOf _ (F := F_impl_firstOf) rfl rfl]
 unfold rot
 cases P with
 | nil => simp [F_impl_firstOf]
 | cons c r =>
  have e : (((r.length : Int) + 1) == 0) = false := beq_eq_false_iff_ne.2 (by omega)
  simp [F_impl_firstOf, e]
end
section
attribute [-simp] DV.cells
attribute [local simp] sliceD cells_st cells_sl cells_i cells_y cells_b cells_s cells_w
attribute [local simp] lend_e3 adopt_e3 new_e3 al_e3 lt_e3
def e4 (m : Nat) (t : List T) : Option (List Int) → DV
 | some ks => pD m t ks
 | none => pv 0 0 (0#32) (0#32)
theorem e4_st (m : Nat) (t : List T) (o : Option (List Int)) : ∃ (a b : Int) (w v : BitVec 32), e4 m t o = .st [.i a, .i b, .w w, .w v] := by
 cases o with
 | none => exact ⟨_, _, _, _, rfl⟩
 | some ks => exact ⟨_, _, _, _, rfl⟩
theorem e4_lend (m : Nat) (t : List T) (o : Option (List Int)) : (e4 m t o).lend = e4 m t o := by
 obtain ⟨a, b, w, v, e⟩ := e4_st m t o
 rw [e]; rfl
theorem e4_adopt (m : Nat) (t : List T) (o : Option (List Int)) (x : Bool) : (e4 m t o).adopt x = e4 m t o := by
 obtain ⟨a, b, w, v, e⟩ := e4_st m t o
 rw [e]; rfl
theorem e4_cells (m : Nat) (t : List T) (o : Option (List Int)) : (e4 m t o).cells.length = 4 := by
 obtain ⟨a, b, w, v, e⟩ := e4_st m t o
 rw [e]; rfl
theorem lend_e4 (m : Nat) (t : List T) (P : Pts) : lendL (P.map (e4 m t)) = P.map (e4 m t) := by
 rw [lendL_map, List.map_map]
 exact List.map_congr_left fun o _ => e4_lend m t o
theorem adopt_e4 (m : Nat) (t : List T) (x : Bool) (P : Pts) : adoptL x (P.map (e4 m t)) = P.map (e4 m t) := by
 rw [adoptL_map, List.map_map]
 exact List.map_congr_left fun o _ => e4_adopt m t o x
theorem new_e4 (m : Nat) (t : List T) (P : Pts) : allNewL (P.map (e4 m t)) = true := by
 rw [allNewL_all, List.all_map, List.all_eq_true]
 intro o _
 obtain ⟨a, b, w, v, e⟩ := e4_st m t o
 show (e4 m t o).allNew = true
 rw [e]; rfl
theorem wid_e4 (m : Nat) (t : List T) (P : Pts) : ∀ e ∈ P.map (e4 m t), e.cells.length = 4 := fun e he => by
 obtain ⟨o, _, rfl⟩ := List.mem_map.1 he
 exact e4_cells m t o
theorem atN_e4 {m : Nat} {t : List T} {P : Pts} {p : Nat} {o : Option (List Int)} (h : P[p]? = some o) : atN (P.map (e4 m t)) p = some (e4 m t o) := by
 show (P.map (e4 m t))[p]? = _
 rw [List.getElem?_map, h]; rfl
/-- what comesTo answers, and what it leaves of the row -/
def ctR (m : Nat) (t : List T) (pts : Pts) : Option Pts → DV × List DV
 | some q => (.b true, [.fr 4 (q.map (e4 m t))])
 | none => (.b false, [.fr 4 (pts.map (e4 m t))])
set_option maxHeartbeats 4000000 in
theorem c_comesTo {m : Nat} {t : List T} {pts : Pts} {p a : Int} {ks : List Int} (h1 : tmOk m t = true) (hl : ks.length = m) (hk : ks.all kOk = true) (hp : -1 ≤ p ∧ p ≤ 100) (hn : pts.length ≤ 40) :
  call lf n_impl_comesTo [.fr 4 (pts.map (e4 m t)), .i p, .i a, pD m t ks] = some (ctR m t pts (cTo m t pts p a ks)) := by
 obtain ⟨h3, _, _⟩ := tmOk_iff.1 h1
 have F := c_isForced h1 hl hk
 have W := c_impl_isWithin a (p + 1) ((pts.length : Int) - 1)
 have w1 : wr (p + 1) = p + 1 := wr_id (by omega) (by omega)
 have w2 : wr ((pts.length : Int) - 1) = (pts.length : Int) - 1 := wr_id (by omega) (by omega)
 have len : (pts.map (e4 m t)).length = pts.length := by simp
 have wid := wid_e4 m t pts
 have ad := fun x => adopt_e4 m t x pts
 rw [call_k lf n_impl_comesTo _ (F := F_impl_comesTo) rfl rfl]
 unfold cTo
 by_cases ha : a = -1
 ·subst ha
  unfold pD pv at *
  cases hf : fcd m t ks with
  | true =>
   rw [hf] at F
   rw [if_pos (.inl rfl), if_pos ⟨rfl, rfl⟩]
   simp only [ctR]
   generalize pts.map (e4 m t) = M at *
   simp [F_impl_comesTo, F, len]
  | false =>
   rw [hf] at F
   rw [if_pos (.inl rfl), if_neg (by simp)]
   simp only [ctR]
   generalize pts.map (e4 m t) = M at *
   simp [F_impl_comesTo, F, len]
 ·have na : (a == -1) = false := beq_eq_false_iff_ne.2 ha
  cases hf : fcd m t ks with
  | true =>
   rw [hf] at F
   rw [if_pos (.inr rfl), if_neg (fun h => ha h.1)]
   simp only [ctR]
   unfold pD pv at *
   generalize pts.map (e4 m t) = M at *
   simp [F_impl_comesTo, F, na, len]
  | false =>
   rw [hf] at F
   rw [if_neg (by simp [ha])]
   by_cases hw : p + 1 ≤ a ∧ a ≤ (pts.length : Int) - 1
   ·rw [decide_eq_true hw] at W
    obtain ⟨n, rfl⟩ := Int.eq_ofNat_of_zero_le (a := a) (by omega)
    rw [Int.toNat_natCast]
    have hlt : n < pts.length := by omega
    have hlt' : (n : Int) < pts.length := by omega
    obtain ⟨o, ho⟩ : ∃ o, pts[n]? = some o := ⟨pts[n], List.getElem?_eq_getElem hlt⟩
    have A := atN_e4 (m := m) (t := t) ho
    cases o with
    | none =>
     rw [if_pos ⟨hw.1, hw.2, ho⟩]
     simp only [ctR]
     have e : (pts.set n (some ks)).map (e4 m t) = (pts.map (e4 m t)).set n (pD m t ks) := by rw [List.map_set]; rfl
     rw [e]
     simp only [e4] at A
     unfold pD pv at *
     have z1 : ((0 : Int) == 0) = true := rfl
     have z2 : ((0#32 : BitVec 32) == 0#32) = true := rfl
     generalize pts.map (e4 m t) = M at *
     generalize pts.length = N at *
     simp [F_impl_comesTo, F, na, w1, w2, W, len, hlt, hlt', A, eqI]
    | some ls =>
     rw [if_neg (by rw [ho]; rintro ⟨_, _, h⟩; cases h)]
     simp only [ctR]
     simp only [e4] at A
     unfold pD pv at *
     have m0 : ((m : Int) == 0) = false := beq_eq_false_iff_ne.2 (by omega)
     generalize pts.map (e4 m t) = M at *
     generalize pts.length = N at *
     simp [F_impl_comesTo, F, na, w1, w2, W, len, hlt, hlt', A, eqI, m0]
   ·rw [decide_eq_false hw] at W
    rw [if_neg (fun h => hw ⟨h.1, h.2.1⟩)]
    simp only [ctR]
    unfold pD pv at *
    generalize pts.map (e4 m t) = M at *
    simp [F_impl_comesTo, F, na, w1, w2, W, len]
def stPt (m : Nat) (t : List T) (P : List C3) (p : Nat) (pts : Pts) : LS :=
 ⟨[(8, .own 11808 P.length 0 P.length), (32, .sl 0 (P.map e3)), (33, .i P.length), (34, .i p)], [(11808, pts.map (e4 m t))]⟩
def noPt : LS := ⟨[(6, .own 3104 0 0 0), (7, .b false)], [(3104, [])]⟩
set_option maxHeartbeats 8000000 in
theorem pt_step {m : Nat} {t : List T} {P : List C3} {p : Nat} {pts : Pts} {c : C3} (h1 : tmOk m t = true) (hc : P[p]? = some c) (hP : P.length ≤ 31) (hl : pts.length = P.length)
  (ho : ∀ (a : Nat) (ks : List Int), pts[a]? = some (some ks) → ks.length = m ∧ ks.all kOk = true) :
  ex lf F_impl_pointsOf_L0 (stPt m t P p pts) = match rn1 m t pts p c with
   | some q => some (.normal, stPt m t P (p + 1) q)
   | none => some (.ret, noPt) := by
 obtain ⟨h3, _, _⟩ := tmOk_iff.1 h1
 obtain ⟨k, no, ye⟩ := c
 have hlt : p < P.length := (List.getElem?_eq_some_iff.1 hc).1
 have hlt' : (p : Int) < P.length := by omega
 have AP := at_e3 hc
 have AN := atN_e3 hc
 simp only at AP AN
 obtain ⟨o, hpo⟩ : ∃ o, pts[p]? = some o := ⟨pts[p]'(by omega), List.getElem?_eq_getElem (by omega)⟩
 have A := atN_e4 (m := m) (t := t) hpo
 have len : (pts.map (e4 m t)).length = P.length := by simp [hl]
 have wid := wid_e4 m t pts
 have ld := lend_e4 m t pts
 have ad := fun x => adopt_e4 m t x pts
 have w1 : wr ((p : Int) + 1) = ((p + 1 : Nat) : Int) := by rw [wr_id (by omega) (by omega)]; omega
 unfold rn1
 rw [hpo]
 cases o with
 | none =>
  simp only
  have C := c_canAsk0 k
  simp only [e4] at A
  unfold stPt noPt
  unfold pv at *
  generalize pts.map (e4 m t) = M at *
  generalize P.length = N at *
  simp [F_impl_pointsOf_L0, hlt, hlt', AP, AN, len, A, C, w1, -Int.natCast_add]
 | some ks =>
  simp only
  obtain ⟨o1, o2⟩ := ho p ks hpo
  have C := c_canAsk (t := t) (ks := ks) (by omega) o1 k
  simp only [e4] at A
  by_cases hk : (0 ≤ k ∧ k < m) ∧ ks[k.toNat]? = some (-1)
  ·have ca : caK m ks k = true := by unfold caK; rw [decide_eq_true hk.1, decide_eq_true hk.2]; rfl
   rw [ca] at C
   rw [if_pos hk]
   obtain ⟨j, rfl⟩ := Int.eq_ofNat_of_zero_le hk.1.1
   rw [Int.toNat_natCast] at hk ⊢
   have B0 := c_answered (m := m) (t := t) false (by omega) o2 hk.2
   have B1 := c_answered (m := m) (t := t) true (by omega) o2 hk.2
   rw [bI_0] at B0
   rw [bI_1] at B1
   have k0 : (ks.set j 0).all kOk = true := kOk_set o2 j false
   have k1 : (ks.set j 1).all kOk = true := kOk_set o2 j true
   have G0 := c_comesTo (pts := pts) (p := p) (a := no) h1 (ks := ks.set j 0) (by simpa using o1) k0 ⟨by omega, by omega⟩ (by omega)
   cases hc0 : cTo m t pts p no (ks.set j 0) with
   | none =>
    rw [hc0] at G0
    simp only [ctR] at G0
    rw [Option.bind_none]
    simp only
    unfold stPt noPt
    unfold pD pv at *
    generalize pts.map (e4 m t) = M at *
    generalize P.length = N at *
    simp [F_impl_pointsOf_L0, hlt, hlt', AP, AN, len, A, C, B0, G0, ld, ad, w1, -Int.natCast_add]
   | some q1 =>
    rw [hc0] at G0
    simp only [ctR] at G0
    rw [Option.bind_some]
    have l1 := cTo_len (by omega) hc0
    have len1 : (q1.map (e4 m t)).length = P.length := by simp [l1, hl]
    have ld1 := lend_e4 m t q1
    have ad1 := fun x => adopt_e4 m t x q1
    have G1 := c_comesTo (pts := q1) (p := p) (a := ye) h1 (ks := ks.set j 1) (by simpa using o1) k1 ⟨by omega, by omega⟩ (by omega)
    cases hc1 : cTo m t q1 p ye (ks.set j 1) with
    | none =>
     rw [hc1] at G1
     simp only [ctR] at G1
     simp only
     unfold stPt noPt
     unfold pD pv at *
     generalize pts.map (e4 m t) = M at *
     generalize q1.map (e4 m t) = M1 at *
     generalize P.length = N at *
     simp [F_impl_pointsOf_L0, hlt, hlt', AP, AN, len, A, C, B0, B1, G0, G1, len1, ld, ad, ld1, ad1, w1, -Int.natCast_add]
    | some q2 =>
     rw [hc1] at G1
     simp only [ctR] at G1
     simp only
     have ad2 := fun x => adopt_e4 m t x q2
     unfold stPt
     unfold pD pv at *
     generalize pts.map (e4 m t) = M at *
     generalize q1.map (e4 m t) = M1 at *
     generalize q2.map (e4 m t) = M2 at *
     generalize P.length = N at *
     simp [F_impl_pointsOf_L0, hlt, hlt', AP, AN, len, A, C, B0, B1, G0, G1, len1, ld, ad, ld1, ad1, ad2, w1, -Int.natCast_add]
  ·have ca : caK m ks k = false := by
    unfold caK
    by_cases q : 0 ≤ k ∧ k < m
    ·rw [decide_eq_true q, decide_eq_false (fun h => hk ⟨q, h⟩)]; rfl
    ·rw [decide_eq_false q]; rfl
   rw [ca] at C
   rw [if_neg hk]
   simp only
   unfold stPt noPt
   unfold pD pv at *
   generalize pts.map (e4 m t) = M at *
   generalize P.length = N at *
   simp [F_impl_pointsOf_L0, hlt, hlt', AP, AN, len, A, C, w1, -Int.natCast_add]
end
section
attribute [-simp] DV.cells
attribute [local simp] sliceD cells_st cells_sl cells_i cells_y cells_b cells_s cells_w
attribute [local simp] lend_e3 adopt_e3 new_e3 al_e3 lt_e3
theorem pt_loop {m : Nat} {t : List T} {P : List C3} (h1 : tmOk m t = true) (hP : P.length ≤ 31) : ∀ (rest : List C3) (p : Nat) (pts : Pts), P.drop p = rest → p ≤ P.length → Inv m t P p pts →
  ex lf F_impl_pointsOf_W0 (stPt m t P p pts) = match rnA m t rest p pts with
   | some q => some (.exit 0, stPt m t P P.length q)
   | none => some (.ret, noPt)
 | [], p, pts, hd, hp, h => by
  have : P.length ≤ p := List.drop_eq_nil_iff.1 hd
  have e : p = P.length := by omega
  subst e
  rw [w_impl_pointsOf_0]
  unfold stPt
  have nlt : ¬ ((P.length : Int) < P.length) := by omega
  simp [F_impl_pointsOf_L0, nlt, rnA]
 | c :: r, p, pts, hd, hp, h => by
  have hc : P[p]? = some c := by
   have : (P.drop p)[0]? = some c := by rw [hd]; rfl
   rw [List.getElem?_drop, Nat.add_zero] at this
   exact this
  have hlt : p < P.length := (List.getElem?_eq_some_iff.1 hc).1
  have hd' : P.drop (p + 1) = r := by
   rw [← List.drop_drop, hd]
   rfl
  have S := pt_step h1 hc hP h.len (fun a ks ha => by obtain ⟨q1, q2, _⟩ := h.ok a ks ha; exact ⟨q1, q2⟩)
  rw [w_impl_pointsOf_0, S]
  simp only [rnA]
  cases hr : rn1 m t pts p c with
  | none => rfl
  | some q =>
   rw [Option.bind_some]
   exact pt_loop h1 hP r (p + 1) q hd' (by omega) (inv_step hc h hr)
/-- the rows of points, and whether there is one -/
def ptR (m : Int) (t : List T) (P : List C3) : Option Pts := if tmOk m t && decide (P.length ≤ 31) then rnS m.toNat t P else none
theorem ptR_iff {m : Int} {t : List T} {P : List C3} : (∃ q, ptR m t P = some q) ↔ pkOk m t P = true := by
 unfold ptR
 cases h1 : tmOk m t with
 | false =>
  simp only [Bool.false_and, Bool.false_eq_true, if_false]
  unfold pkOk
  rw [h1]
  simp
 | true =>
  obtain ⟨h3, _, _⟩ := tmOk_iff.1 h1
  obtain ⟨n, rfl⟩ := Int.eq_ofNat_of_zero_le (a := m) (by omega)
  rw [pk_iff, Int.toNat_natCast]
  by_cases h : P.length ≤ 31
  ·rw [decide_eq_true h, Bool.and_self, if_pos rfl, rnS_iff h]
   exact ⟨fun q => ⟨h1, q⟩, fun q => q.2⟩
  ·rw [decide_eq_false h]
   simp only [Bool.and_false, Bool.false_eq_true, if_false]
   constructor
   ·rintro ⟨q, h⟩; cases h
   ·rintro ⟨_, L, hL⟩; exact absurd hL.few h
def ptD (m : Int) (t : List T) : Option Pts → List DV
 | some q => q.map (e4 m.toNat t)
 | none => []
set_option maxHeartbeats 4000000 in
theorem c_pointsOf {m : Int} {t : List T} {P : List C3} (ht : (t.length : Int) < 1099511627776) (hN : (P.length : Int) < 1099511627776) :
  call lf n_impl_pointsOf [.i m, .sl 0 (t.map e2), .sl 0 (P.map e3)] = some (.tup [.fr 4 (ptD m t (ptR m t P)), .b (ptR m t P).isSome], []) := by
 have C1 := c_impl_TermOk m t ht
 rw [call_k lf n_impl_pointsOf _ (F := F_impl_pointsOf) rfl rfl]
 have lP : (P.map e3).length = P.length := by simp
 unfold ptR
 cases h1 : tmOk m t with
 | false => rw [h1] at C1; simp [F_impl_pointsOf, C1, ptD]
 | true =>
  rw [h1] at C1
  obtain ⟨h3, _, _⟩ := tmOk_iff.1 h1
  obtain ⟨n, rfl⟩ := Int.eq_ofNat_of_zero_le (a := m) (by omega)
  rw [Int.toNat_natCast]
  by_cases h : P.length ≤ 31
  ·have ng : ¬ (31 : Int) < P.length := by omega
   rw [decide_eq_true h, Bool.and_self, if_pos rfl]
   have C2 := c_firstOf P hN
   have C3 := c_startOf (t := t) (by omega) h1
   have r1 : -1 ≤ rot P := by unfold rot; split <;> omega
   have C4 := c_comesTo (pts := List.replicate P.length none) (p := -1) (a := rot P) h1 (non_len n) (non_all n) ⟨by omega, by omega⟩ (by rw [List.length_replicate]; omega)
   have lE := lend_e3 P
   have rp : (List.replicate P.length (none : Option (List Int))).map (e4 n t) = List.replicate P.length (.st [.i 0, .i 0, .w (0#32), .w (0#32)]) := by rw [List.map_replicate]; rfl
   have ldr := lend_e4 n t (List.replicate P.length none)
   have adr := fun x => adopt_e4 n t x (List.replicate P.length none)
   rw [rp] at C4 ldr adr
   have lb : (P.length : Int) ≤ (bound : Int) := by unfold bound; omega
   unfold rnS
   cases hq : cTo n t (List.replicate P.length none) (-1) (rot P) (non n) with
   | none =>
    rw [hq] at C4
    simp only [ctR] at C4
    rw [rp] at C4
    rw [Option.bind_none]
    unfold pD pv at *
    generalize P.map e3 = Q at *
    generalize rot P = r0 at *
    generalize P.length = N at *
    have lr : (List.replicate N (DV.st [.i 0, .i 0, .w (0#32), .w (0#32)])).length = N := by simp
    simp [F_impl_pointsOf, C1, C2, C3, C4, ng, lb, lP, lE, ldr, adr, lr, ptD]
   | some q0 =>
    rw [hq] at C4
    simp only [ctR] at C4
    rw [Option.bind_some]
    obtain ⟨iv, _⟩ := inv_start hq
    have L := pt_loop h1 h P 0 q0 rfl (Nat.zero_le _) iv
    have ad0 := fun x => adopt_e4 n t x q0
    have lq0 : (q0.map (e4 n t)).length = P.length := by rw [List.length_map, iv.len]
    cases hr : rnA n t P 0 q0 with
    | none =>
     rw [hr] at L
     simp only at L
     unfold stPt noPt at L
     unfold pD pv at *
     generalize q0.map (e4 n t) = M at *
     generalize P.map e3 = Q at *
     generalize rot P = r0 at *
     generalize P.length = N at *
     have lr : (List.replicate N (DV.st [.i 0, .i 0, .w (0#32), .w (0#32)])).length = N := by simp
     simp only [Int.natCast_zero] at L
     simp [F_impl_pointsOf, C1, C2, C3, C4, ng, lb, lP, lE, ldr, ad0, lr, L, ptD]
    | some q =>
     rw [hr] at L
     simp only at L
     have iv2 := inv_all P 0 q0 q rfl (Nat.zero_le _) iv hr
     have lq : (q.map (e4 n t)).length = P.length := by rw [List.length_map, iv2.len]
     unfold stPt at L
     unfold pD pv at *
     simp only [ptD, Int.toNat_natCast]
     generalize q.map (e4 n t) = M2 at *
     generalize q0.map (e4 n t) = M at *
     generalize P.map e3 = Q at *
     generalize rot P = r0 at *
     generalize P.length = N at *
     have lr : (List.replicate N (DV.st [.i 0, .i 0, .w (0#32), .w (0#32)])).length = N := by simp
     simp only [Int.natCast_zero] at L
     simp [F_impl_pointsOf, C1, C2, C3, C4, ng, lb, lP, lE, ldr, ad0, lr, L, lq]
  ·have ng : (31 : Int) < P.length := by omega
   rw [decide_eq_false h]
   generalize P.map e3 = Q at *
   generalize P.length = N at *
   simp [F_impl_pointsOf, C1, ng, lP, ptD]
theorem c_impl_PlanOk {m : Int} {t : List T} {P : List C3} (ht : (t.length : Int) < 1099511627776) (hN : (P.length : Int) < 1099511627776) :
  call lf n_impl_PlanOk [.i m, .sl 0 (t.map e2), .sl 0 (P.map e3)] = some (.b (pkOk m t P), []) := by
 have C := c_pointsOf (m := m) (t := t) (P := P) ht hN
 have e : (ptR m t P).isSome = pkOk m t P := by
  have q := ptR_iff (m := m) (t := t) (P := P)
  rw [Bool.eq_iff_iff, Option.isSome_iff_exists]
  exact q
 rw [e] at C
 have nw : allNewL (ptD m t (ptR m t P)) = true := by
  cases ptR m t P with
  | none => rfl
  | some q => exact new_e4 _ _ _
 rw [call_k lf n_impl_PlanOk _ (F := F_impl_PlanOk) rfl rfl]
 generalize ptD m t (ptR m t P) = M at *
 simp [F_impl_PlanOk, C, nw]
structure Fin (m : Nat) (t : List T) (P : List C3) (L : LT) (pts : Pts) : Prop where
 inv : Inv m t P P.length pts
 start : go3 m t P.length pts (-1) (rot P) (non m)
end
section
attribute [-simp] DV.cells
attribute [local simp] sliceD cells_st cells_sl cells_i cells_y cells_b cells_s cells_w
attribute [local simp] lend_e3 adopt_e3 new_e3 al_e3 lt_e3
theorem c_nextIn (k : Nat) (no ye : Int) (s : Nat) (hk : k ≤ 40) : call lf n_impl_Choice_nextIn [.st [.i k, .i no, .i ye], .i s] = some (.i (if s.testBit k then ye else no), []) := by
 have C := c_impl_outcomeIn s k (by omega) (by omega)
 rw [Int.toNat_natCast] at C
 have e : (s : Int) / 2 ^ k % 2 = bI (s.testBit k) := by
  unfold bI
  rw [Nat.testBit_eq_decide_div_mod_eq]
  have : (s : Int) / 2 ^ k % 2 = ((s / 2 ^ k % 2 : Nat) : Int) := by simp
  rw [this]
  by_cases h : s / 2 ^ k % 2 = 1
  ·simp [h]
  ·have : s / 2 ^ k % 2 = 0 := by omega
   simp [this]
 rw [e] at C
 rw [call_k lf n_impl_Choice_nextIn _ (F := F_impl_Choice_nextIn) rfl rfl]
 cases h : s.testBit k with
 | true =>
  rw [h, bI_1] at C
  simp [F_impl_Choice_nextIn, C]
 | false =>
  rw [h, bI_0] at C
  simp [F_impl_Choice_nextIn, C]
def stCb (us : List T) (P : List C3) (s : Int) (cost some_ at_ : Int) : LS := ⟨[(0, .sl 0 (us.map e2)), (2, .sl 0 (P.map e3)), (3, .i s), (12, .i cost), (13, .i some_), (14, .i at_)], []⟩
set_option maxHeartbeats 4000000 in
theorem cb_to {us : List T} (hu : us.all tOk = true) (hm : us.length ≤ 5) {P : List C3} {s : Nat} : ∀ (L : LT) (a sum : Int) (so : Nat), enc P a L → (∀ k ∈ pth L.er s, k < us.length) → so < 2 ^ us.length → 0 ≤ sum → sum + 9 * (pth L.er s).length ≤ 100000 →
  ex lf F_impl_CostBy_W0 (stCb us P s sum so a) = some (.exit 0, stCb us P s (sum + tC us L.er s) (bitsN so (pth L.er s) : Nat) (-1))
 | .stop, a, sum, so, he, hp, hso, h0, h1 => by
  have he : a = -1 := he
  subst he
  rw [w_impl_CostBy_0]
  simp only [LT.er, tC, pth, bitsN, Int.add_zero]
  simp only [stCb]
  simp [F_impl_CostBy_L0]
 | .ask p k n y, a, sum, so, ⟨e, no, ye, h1, h2, h3, h4, h5⟩, hp, hso, hs0, hs1 => by
  subst e
  simp only [LT.er, pth] at hp hs1
  have hk : k < us.length := hp k List.mem_cons_self
  have AT := at_e3 h1
  have pl : p < P.length := (List.getElem?_eq_some_iff.1 h1).1
  have pl' : (p : Int) < P.length := by omega
  have pn : ((p : Int) != -1) = true := bne_iff_ne.2 (by omega)
  obtain ⟨c, cq, c1, c2, c3⟩ := cA_at (us := us) (a := (k : Int)) (by omega) (by omega)
  rw [Int.toNat_natCast] at c2
  have cn := cA_nn hu k
  have hq' : (P.map e3).length = P.length := by simp
  have ul : (us.map e2).length = us.length := by simp
  have kl' : (k : Int) < us.length := by omega
  have NX := c_nextIn k no ye s (by omega)
  have so32 : so < 32 := by
   have : 2 ^ us.length ≤ 2 ^ 5 := Nat.pow_le_pow_right (by omega) hm
   omega
  have O := or_i (so := so) (a := (k : Int)) so32 (by omega) (by omega)
  rw [Int.toNat_natCast] at O
  have so' : so ||| 2 ^ k < 2 ^ us.length := or_lt2 hso hk
  simp only [List.length_cons] at hs1
  have w2 : wr (sum + c) = sum + cA us k := by rw [c2, wr_id (by omega) (by omega)]
  have nk : ¬ (k : Int) < 0 := by omega
  simp only [LT.er, tC, pth, bitsN]
  rw [w_impl_CostBy_0]
  cases hb : s.testBit k with
  | true =>
   rw [hb] at NX
   simp only [if_true] at NX
   rw [hb, if_pos rfl] at hp hs1
   have ih := cb_to hu hm y ye (sum + cA us k) (so ||| 2 ^ k) h5 (fun j hj => hp j (List.mem_cons_of_mem _ hj)) so' (by omega) (by omega)
   rw [if_pos rfl, if_pos rfl, ← Int.add_assoc, ← ih]
   simp only [stCb]
   generalize P.length = N at *
   generalize P.map e3 = E at *
   generalize us.map e2 = U at *
   simp [F_impl_CostBy_L0, AT, pl', pn, c1, hq', ul, kl', NX, O, w2, nk]
  | false =>
   rw [hb] at NX
   simp only [Bool.false_eq_true, if_false] at NX
   rw [hb, if_neg (by simp)] at hp hs1
   have ih := cb_to hu hm n no (sum + cA us k) (so ||| 2 ^ k) h4 (fun j hj => hp j (List.mem_cons_of_mem _ hj)) so' (by omega) (by omega)
   rw [if_neg (by simp), if_neg (by simp), ← Int.add_assoc, ← ih]
   simp only [stCb]
   generalize P.length = N at *
   generalize P.map e3 = E at *
   generalize us.map e2 = U at *
   simp [F_impl_CostBy_L0, AT, pl', pn, c1, hq', ul, kl', NX, O, w2, nk]
theorem c_impl_CostBy {us t : List T} (hu : tsOk us = true) (ht : tmOk us.length t = true) {P : List C3} {L : LT} (h : isPl us.length t P L) {s : Nat} (hs : s < 2 ^ us.length) :
  call lf n_impl_CostBy [.sl 0 (us.map e2), .sl 0 (t.map e2), .sl 0 (P.map e3), .i s] = some (.tup [.i (tC us L.er s), .i (ask0 L.er s : Nat), .b true], []) := by
 have hu' := tsOk_iff.1 hu
 obtain ⟨_, tl, _⟩ := tmOk_iff.1 ht
 have few := h.few
 have C1 := c_impl_TestsOk us (by omega)
 rw [hu] at C1
 have C2 := c_impl_PlanOk (m := us.length) (t := t) (P := P) (by omega) (by omega)
 rw [pk_iff.2 ⟨ht, L, h⟩] at C2
 have C3 := c_impl_StateOk us.length s
 have so : stOk us.length s = true := by
  obtain ⟨p1, p2, p3⟩ := pow5 (m := us.length) (by omega) (by omega)
  simp only [Int.toNat_natCast] at p1 p2 p3
  exact stOk_iff.2 ⟨by omega, by omega, by rw [Int.toNat_natCast]; omega⟩
 rw [so] at C3
 have C4 := c_firstOf P (by omega)
 have nd := pth_nodup L.er (non us.length) s h.ok
 have pk : ∀ k ∈ pth L.er s, k < us.length := fun k hk => by
  have := ks_ex (nd.2 k hk)
  rwa [non_len] at this
 have pl := pth_le L.er s
 have dl := dpT_le L.er (non us.length) (non_len _) h.ok
 rw [uk_non] at dl
 have W := cb_to hu'.2 (by omega) (P := P) (s := s) L (rot P) 0 0 h.e pk (Nat.pow_pos (by omega)) (by omega) (by omega)
 rw [Int.zero_add, show bitsN 0 (pth L.er s) = ask0 L.er s from rfl] at W
 have hLE := lend_e3 P
 simp only [stCb, Int.natCast_zero] at W
 rw [call_k lf n_impl_CostBy _ (F := F_impl_CostBy) rfl rfl]
 generalize tC us L.er s = X at *
 generalize ask0 L.er s = Y at *
 generalize P.map e3 = E at *
 generalize rot P = r0 at *
 simp [F_impl_CostBy, C1, C2, C3, C4, hLE, W]
def csL (us : List T) (x : PT) (N i : Nat) : List Int := (List.range N).map fun k => if k < i then tC us x k else 0
theorem csL_len (us : List T) (x : PT) (N i : Nat) : (csL us x N i).length = N := by simp [csL]
theorem csL_set {us : List T} {x : PT} {N i : Nat} (hi : i < N) : (csL us x N i).set i (tC us x i) = csL us x N (i + 1) := by
 apply List.ext_getElem?
 intro k
 by_cases h : k < N
 ·by_cases e : k = i
  ·subst e
   rw [List.getElem?_set_self (by simp [csL_len, hi])]
   simp [csL, h]
  ·rw [List.getElem?_set_ne (fun q => e q.symm)]
   have e' : k < i ↔ k < i + 1 := by omega
   simp [csL, h, e']
 ·rw [List.getElem?_eq_none (by simp [csL_len]; omega), List.getElem?_eq_none (by simp [csL_len]; omega)]
theorem csL_at {us : List T} {x : PT} {N k : Nat} (h : k < N) : (csL us x N N)[k]? = some (tC us x k) := by simp [csL, h]
set_option maxHeartbeats 4000000 in
theorem c_costsBy {us t : List T} (hu : tsOk us = true) (ht : tmOk us.length t = true) {P : List C3} {L : LT} (h : isPl us.length t P L) :
  call lf n_impl_costsBy [.sl 0 (us.map e2), .sl 0 (t.map e2), .sl 0 (P.map e3)] = some (.tup [.fr 1 ((csL us L.er (2 ^ us.length) (2 ^ us.length)).map .i), .b true], []) := by
 have hu' := tsOk_iff.1 hu
 obtain ⟨p1, p2, p3⟩ := pow5 (m := us.length) (by omega) (by omega)
 simp only [Int.toNat_natCast] at p1 p2 p3
 obtain ⟨_, tl, _⟩ := tmOk_iff.1 ht
 have few := h.few
 have C1 := c_impl_TestsOk us (by omega)
 rw [hu] at C1
 have C2 := c_impl_PlanOk (m := us.length) (t := t) (P := P) (by omega) (by omega)
 rw [pk_iff.2 ⟨ht, L, h⟩] at C2
 have C4 := c_impl_statesOf us.length (by omega) (by omega)
 simp only [Int.toNat_natCast] at C4
 rw [← p3] at C4
 have hLE := lend_e3 P
 have LP := loop_count (lf := lf) (L := F_impl_costsBy_L0) (2 ^ us.length) (fun i => ⟨[(0, .sl 0 (us.map e2)), (1, .sl 0 (t.map e2)), (2, .sl 0 (P.map e3)), (9, .own 12808 (2 ^ us.length) 0 (2 ^ us.length)), (27, .i (2 ^ us.length : Nat)), (28, .i i)], [(12808, (csL us L.er (2 ^ us.length) i).map .i)]⟩) (x := .exit 0) (R := ⟨[(0, .sl 0 (us.map e2)), (1, .sl 0 (t.map e2)), (2, .sl 0 (P.map e3)), (9, .own 12808 (2 ^ us.length) 0 (2 ^ us.length)), (27, .i (2 ^ us.length : Nat)), (28, .i (2 ^ us.length : Nat))], [(12808, (csL us L.er (2 ^ us.length) (2 ^ us.length)).map .i)]⟩) (fun i hi => by
  have C := c_impl_CostBy hu ht h hi
  have w1 : wr ((i : Int) + 1) = ((i + 1 : Nat) : Int) := by rw [wr_id (by omega) (by omega)]; omega
  have ll := csL_len us L.er (2 ^ us.length) i
  have st := csL_set (us := us) (x := L.er) (N := 2 ^ us.length) (i := i) hi
  rw [← st]
  obtain ⟨x, hx⟩ : ∃ x : Int, atN ((csL us L.er (2 ^ us.length) i).map DV.i) i = some (.i x) := ⟨(csL us L.er (2 ^ us.length) i)[i]'(by omega), by show ((csL us L.er (2 ^ us.length) i).map DV.i)[i]? = _; rw [List.getElem?_map, List.getElem?_eq_getElem (by omega)]; rfl⟩
  generalize csL us L.er (2 ^ us.length) i = cs at *
  generalize tC us L.er i = c at *
  generalize ask0 L.er i = so at *
  generalize (2 ^ us.length : Nat) = N at *
  generalize P.map e3 = E at *
  have hin : (i : Int) < (N : Int) := by omega
  have hiN : i < N := hi
  simp only [List.map_set]
  simp [F_impl_costsBy_L0, hin, hiN, C, w1, ll, hx, hLE, -Int.natCast_add]) (by
  generalize (2 ^ us.length : Nat) = N at *
  generalize P.map e3 = E at *
  simp [F_impl_costsBy_L0]) (by simp)
 have z : csL us L.er (2 ^ us.length) 0 = List.replicate (2 ^ us.length) 0 := by
  unfold csL
  simp
  apply List.ext_getElem?
  intro k
  by_cases h : k < 2 ^ us.length <;> simp [h]
 rw [z] at LP
 have ll := csL_len us L.er (2 ^ us.length) (2 ^ us.length)
 have lb : ((2 ^ us.length : Nat) : Int) ≤ (bound : Int) := by unfold bound; omega
 rw [call_k lf n_impl_costsBy _ (F := F_impl_costsBy) rfl rfl]
 generalize csL us L.er (2 ^ us.length) (2 ^ us.length) = cs at *
 generalize (2 ^ us.length : Nat) = N at *
 simp only [Int.natCast_zero, List.map_replicate] at LP
 change ex lf F_impl_costsBy_W0 _ = _ at LP
 have n0 : ¬ ((N : Int) < 0) := by omega
 generalize P.map e3 = E at *
 simp [F_impl_costsBy, C1, C2, C4, LP, lb, ll, hLE]
set_option maxHeartbeats 4000000 in
theorem c_impl_AverageBy {us t : List T} (hu : tsOk us = true) (ht : tmOk us.length t = true) {P : List C3} {L : LT} (h : isPl us.length t P L) :
  call lf n_impl_AverageBy [.sl 0 (us.map e2), .sl 0 (t.map e2), .sl 0 (P.map e3)] = some (.i (tA us (non us.length) L.er), []) := by
 have hu' := tsOk_iff.1 hu
 obtain ⟨p1, p2, p3⟩ := pow5 (m := us.length) (by omega) (by omega)
 simp only [Int.toNat_natCast] at p1 p2 p3
 have C := c_costsBy hu ht h
 have hLE := lend_e3 P
 have ll := csL_len us L.er (2 ^ us.length) (2 ^ us.length)
 have LP := loop_count (lf := lf) (L := F_impl_AverageBy_L0) (2 ^ us.length) (fun i => ⟨[(0, .sl 0 (us.map e2)), (9, .i (avN us L.er i)), (21, .own 8201 (2 ^ us.length) 0 (2 ^ us.length)), (22, .i (2 ^ us.length : Nat)), (23, .i i)], [(8201, (csL us L.er (2 ^ us.length) (2 ^ us.length)).map .i)]⟩) (x := .exit 0) (R := ⟨[(0, .sl 0 (us.map e2)), (9, .i (avN us L.er (2 ^ us.length))), (21, .own 8201 (2 ^ us.length) 0 (2 ^ us.length)), (22, .i (2 ^ us.length : Nat)), (23, .i (2 ^ us.length : Nat))], [(8201, (csL us L.er (2 ^ us.length) (2 ^ us.length)).map .i)]⟩) (fun i hi => by
  have W := c_impl_WeightOf us i (by omega)
  rw [wtOf_of hu (by omega) (by omega)] at W
  have e : avN us L.er (i + 1) = avN us L.er i + wt us i * tC us L.er i := rfl
  have b0 := avN_bd hu h.ok (i := i) (by omega)
  have b1 := avN_bd hu h.ok (i := i + 1) (by omega)
  have w1 : wr ((i : Int) + 1) = ((i + 1 : Nat) : Int) := by rw [wr_id (by omega) (by omega)]; omega
  rw [e] at b1 ⊢
  have w2 : wr (wt us i * tC us L.er i) = wt us i * tC us L.er i := wr_id (by omega) (by omega)
  have w3 : wr (avN us L.er i + wt us i * tC us L.er i) = avN us L.er i + wt us i * tC us L.er i := wr_id (by omega) (by omega)
  have A : atN ((csL us L.er (2 ^ us.length) (2 ^ us.length)).map DV.i) i = some (.i (tC us L.er i)) := by
   show ((csL us L.er (2 ^ us.length) (2 ^ us.length)).map DV.i)[i]? = _
   rw [List.getElem?_map, csL_at hi]; rfl
  generalize csL us L.er (2 ^ us.length) (2 ^ us.length) = cs at *
  generalize (2 ^ us.length : Nat) = N at *
  have hin : (i : Int) < (N : Int) := by omega
  have hiN : i < N := hi
  simp [F_impl_AverageBy_L0, hin, hiN, W, A, w1, w2, w3, ll, -Int.natCast_add]) (by
  generalize csL us L.er (2 ^ us.length) (2 ^ us.length) = cs at *
  generalize (2 ^ us.length : Nat) = N at *
  simp [F_impl_AverageBy_L0]) (by simp)
 have z : avN us L.er 0 = 0 := rfl
 have fin : tA us (non us.length) L.er = avN us L.er (2 ^ us.length) := avT h.ok
 rw [z] at LP
 simp only [Int.natCast_zero] at LP
 rw [call_k lf n_impl_AverageBy _ (F := F_impl_AverageBy) rfl rfl, fin]
 generalize avN us L.er (2 ^ us.length) = X at *
 generalize csL us L.er (2 ^ us.length) (2 ^ us.length) = cs at *
 generalize (2 ^ us.length : Nat) = N at *
 generalize P.map e3 = E at *
 change ex lf F_impl_AverageBy_W0 _ = _ at LP
 simp [F_impl_AverageBy, C, LP, hLE, ll]
end
section
/-- the weight of what is known -/
def kp : List T → List Int → Int
 | t :: r, k :: ks => (if k = -1 then 1 else if k = 1 then t.2 else 6 - t.2) * kp r ks
 | _, _ => 1
end
section
attribute [-simp] DV.cells
attribute [local simp] sliceD cells_st cells_sl cells_i cells_y cells_b cells_s cells_w
theorem c_impl_rowOk (row : Int) : call lf n_impl_rowOk [.i row] = some (.b (rwOk row), []) := by
 rw [call_k lf n_impl_rowOk _ (F := F_impl_rowOk) rfl rfl]
 have e : rwOk row = (row == 0 || row == 1) := by
  unfold rwOk
  by_cases h0 : row = 0
  ·subst h0; rfl
  ·by_cases h1 : row = 1
   ·subst h1; rfl
   ·have n0 : (row == 0) = false := beq_eq_false_iff_ne.2 h0
    have n1 : (row == 1) = false := beq_eq_false_iff_ne.2 h1
    rw [n0, n1]
    exact decide_eq_false (by omega)
 rw [e]
 cases h0 : (row == 0) with
 | true => simp [F_impl_rowOk, h0]
 | false => simp [F_impl_rowOk, h0]
theorem c_impl_endChance (c q row : Int) (hq : 1 ≤ q ∧ q ≤ 5) : call lf n_impl_endChance [.st [.i c, .i q], .i row] = some (.i (if row = 0 then 6 - q else q), []) := by
 have w1 : wr (6 - q) = 6 - q := wr_id (by omega) (by omega)
 rw [call_k lf n_impl_endChance _ (F := F_impl_endChance) rfl rfl]
 by_cases h : row = 0
 ·simp [F_impl_endChance, h, w1]
 ·have h' : (row == 0) = false := by simp [h]
  simp [F_impl_endChance, h, h']
theorem c_impl_wholeOf {n : Nat} (hn : n ≤ 5) : call lf n_impl_wholeOf [.i n] = some (.i (6 ^ n), []) := by
 rw [call_k lf n_impl_wholeOf _ (F := F_impl_wholeOf) rfl rfl]
 have L := loop_count (lf := lf) (L := F_impl_wholeOf_L0) n (fun i => ⟨[(3, .i (6 ^ i)), (4, .i n), (5, .i i)], []⟩) (x := .exit 0) (R := ⟨[(3, .i (6 ^ n)), (4, .i n), (5, .i n)], []⟩) (fun i hi => by
  have p := p6 (n := i) (by omega)
  have w1 : wr ((i : Int) + 1) = i + 1 := wr_id (by omega) (by omega)
  have w2 : wr ((6 : Int) ^ i * 6) = 6 ^ i * 6 := wr_id (by omega) (by omega)
  simp [F_impl_wholeOf_L0, hi, w1, w2, Int.pow_succ]) (by simp [F_impl_wholeOf_L0]) (by simp)
 have L' : ex lf F_impl_wholeOf_W0 ⟨[(3, .i 1), (4, .i n), (5, .i 0)], []⟩ = some (.exit 0, ⟨[(3, .i (6 ^ n)), (4, .i n), (5, .i n)], []⟩) := L
 simp [F_impl_wholeOf, L']
set_option maxHeartbeats 4000000 in
theorem eA_calli {us : List T} (h : us.all tOk = true) {row a : Int} (h0 : 0 ≤ a) (h1 : a < us.length) : ∃ c q : Int, atI (us.map e2) a = some (.st [.i c, .i q]) ∧ c = cA us a.toNat ∧ call lf n_impl_endChance [.st [.i c, .i q], .i row] = some (.i (eA us row a.toNat), []) := by
 obtain ⟨c, q, c1, c2, c3⟩ := cA_at (us := us) h0 h1
 refine ⟨c, q, c1, c2, ?_⟩
 have e : us.getD a.toNat (0, 0) = us[a.toNat] := by simp [List.getD, show a.toNat < us.length by omega]
 have tq := tOk_iff.1 (List.all_eq_true.1 h us[a.toNat] (List.getElem_mem (by omega)))
 rw [← e, c3] at tq
 rw [c_impl_endChance c q row tq.2]
 unfold eA
 rw [c3]
set_option maxHeartbeats 4000000 in
theorem l_impl_RowAverage {us : List T} (h : tsOk us = true) (row : Int) (os : List Int) (ho5 : os.length ≤ 5) (rest : List Int) : ∀ (k : Nat) (on sum : Int) (so : Nat), orS us.length so rest = true → 0 ≤ on → on ≤ 6 ^ k → 0 ≤ sum → sum ≤ 70000 * k → k + rest.length = os.length → (os.map DV.i).drop k = rest.map .i →
  ∃ on' : Int, ex lf F_impl_RowAverage_W0 ⟨[(0, .sl 0 (us.map e2)), (2, .i row), (8, .i sum), (9, .i (on * 6 ^ rest.length)), (30, .sl 0 (os.map .i)), (31, .i os.length), (32, .i k)], []⟩ =
   some (.exit 0, ⟨[(0, .sl 0 (us.map e2)), (2, .i row), (8, .i (sum + rA us row on rest)), (9, .i on'), (30, .sl 0 (os.map .i)), (31, .i os.length), (32, .i os.length)], []⟩) := by
 have h' := tsOk_iff.1 h
 induction rest with
 | nil =>
  intro k on sum so ho n0 n1 s0 s1 hn hd
  have hk : k = os.length := by simpa using hn
  refine ⟨on * 6 ^ ([] : List Int).length, ?_⟩
  rw [w_impl_RowAverage_0]
  simp [F_impl_RowAverage_L0, hk, rA]
 | cons a rest ih =>
  intro k on sum so ho n0 n1 s0 s1 hn hd
  obtain ⟨o1, o2, o3⟩ := orS_cons.1 ho
  have hn2 : (k : Int) + ((DV.i a :: rest.map DV.i).length : Nat) = os.length := by simp at hn ⊢; omega
  obtain ⟨q1, q2, q3, q4, q5, q6⟩ := stp (es := os.map DV.i) (by omega) hn2 (by omega) (by simpa using hd)
  have kl : k < os.length := by omega
  obtain ⟨c, q, x1, x2, x3⟩ := eA_calli h'.2 (row := row) o1.1 o1.2
  have cn := cA_nn h'.2 a.toNat
  have ea := eA_bd h'.2 (row := row) (a := a.toNat) (by omega)
  have hl : rest.length + 1 = os.length - k := by simp at hn; omega
  have pb := p6le (i := k) (j := rest.length + 1) (by omega) n0 n1
  have pk := p6 (n := k) (by omega)
  have pr := p6 (n := rest.length) (by omega)
  have m2 : 0 ≤ c * (on * 6 ^ (rest.length + 1)) ∧ c * (on * 6 ^ (rest.length + 1)) ≤ 9 * 7776 := by
   exact ⟨Int.mul_nonneg (by omega) pb.1, Int.mul_le_mul (by omega) pb.2 pb.1 (by omega)⟩
  have w3 : wr (c * (on * 6 ^ (rest.length + 1))) = c * (on * 6 ^ (rest.length + 1)) := wr_id (by omega) (by omega)
  have w4 : wr (sum + c * (on * 6 ^ (rest.length + 1))) = sum + c * (on * 6 ^ (rest.length + 1)) := wr_id (by omega) (by omega)
  have w5 : wr (6 - eA us row a.toNat) = 6 - eA us row a.toNat := wr_id (by omega) (by omega)
  have dv : (on * 6 ^ (rest.length + 1)).tdiv 6 = on * 6 ^ rest.length := by
   rw [Int.pow_succ, ← Int.mul_assoc]
   exact Int.mul_tdiv_cancel _ (by omega)
  have pb0 : 0 ≤ on * 6 ^ rest.length ∧ on * 6 ^ rest.length ≤ 7776 := p6le (i := k) (j := rest.length) (by omega) n0 n1
  have w7 : wr (on * 6 ^ rest.length) = on * 6 ^ rest.length := wr_id (by omega) (by omega)
  have m3 : 0 ≤ on * (6 - eA us row a.toNat) ∧ on * (6 - eA us row a.toNat) ≤ 6 ^ (k + 1) := by
   refine ⟨Int.mul_nonneg n0 (by omega), ?_⟩
   rw [Int.pow_succ]
   exact Int.mul_le_mul n1 (by omega) (by omega) (by omega)
  have m4 : 0 ≤ on * 6 ^ rest.length * (6 - eA us row a.toNat) ∧ on * 6 ^ rest.length * (6 - eA us row a.toNat) ≤ 7776 * 6 :=
   ⟨Int.mul_nonneg pb0.1 (by omega), Int.mul_le_mul pb0.2 (by omega) (by omega) (by omega)⟩
  have w8 : wr (on * 6 ^ rest.length * (6 - eA us row a.toNat)) = on * (6 - eA us row a.toNat) * 6 ^ rest.length := by
   rw [wr_id (by omega) (by omega), Int.mul_assoc, Int.mul_assoc, Int.mul_comm (6 ^ rest.length)]
  have e : sum + rA us row on (a :: rest) = sum + c * (on * 6 ^ (rest.length + 1)) + rA us row (on * (6 - eA us row a.toNat)) rest := by simp only [rA, x2, Int.mul_assoc]; omega
  obtain ⟨on', I⟩ := ih (k + 1) (on * (6 - eA us row a.toNat)) (sum + c * (on * 6 ^ (rest.length + 1))) _ o3 m3.1 m3.2 (by omega) (by omega) (by simp at hn; omega) (by simpa using q6)
  refine ⟨on', ?_⟩
  have q3' : wr ((k : Int) + 1) = ((k + 1 : Nat) : Int) := by rw [q3]; omega
  have o11 := o1.1
  have o12 := o1.2
  rw [w_impl_RowAverage_0, e]
  simp only [List.length_cons] at *
  generalize on * (6 - eA us row a.toNat) * 6 ^ rest.length = G at *
  generalize on * 6 ^ (rest.length + 1) = P at *
  generalize on * 6 ^ rest.length = Q at *
  generalize rA us row _ rest = Z at *
  generalize eA us row a.toNat = E at *
  simp [F_impl_RowAverage_L0, kl, q1, q2, q3', o11, o12, x1, x3, w3, w4, w5, dv, w7, w8, I, -Int.natCast_add]
theorem c_impl_RowAverage (us : List T) (os : List Int) (row : Int) (ha : (us.length : Int) < 1099511627776) (hc : (os.length : Int) < 1099511627776) :
  call lf n_impl_RowAverage [.sl 0 (us.map e2), .sl 0 (os.map .i), .i row] = some (.i (raOf us os row), []) := by
 rw [call_k lf n_impl_RowAverage _ (F := F_impl_RowAverage) rfl rfl]
 have C1 := c_impl_TestsOk us ha
 have C3 := c_impl_OrderOk us.length os hc
 have C4 := c_impl_rowOk row
 unfold raOf raOk
 cases h1 : tsOk us with
 | false => rw [h1] at C1; simp [F_impl_RowAverage, C1]
 | true =>
  rw [h1] at C1
  cases h3 : orOk us.length os with
  | false => rw [h3] at C3; simp [F_impl_RowAverage, C1, C3]
  | true =>
   rw [h3] at C3
   cases h4 : rwOk row with
   | false =>
    rw [h4] at C4
    simp [F_impl_RowAverage, C1, C3, C4]
   | true =>
    rw [h4] at C4
    obtain ⟨g1, g2, g3⟩ := orOk_iff.1 h3
    have W := c_impl_wholeOf (n := us.length) (by omega)
    obtain ⟨on', L⟩ := l_impl_RowAverage h1 row os (by omega) os 0 1 0 0 g3 (by omega) (by omega) (by omega) (by omega) (by omega) (by simp)
    have el : os.length = us.length := by omega
    simp only [Int.natCast_zero, Int.zero_add, Int.one_mul, el] at L
    simp [F_impl_RowAverage, C1, C3, C4, W, el, L]
end
section
attribute [-simp] DV.cells
attribute [local simp] sliceD cells_st cells_sl cells_i cells_y cells_b cells_s cells_w
attribute [local simp] lend_e3 adopt_e3 new_e3 al_e3 lt_e3
def rw3 (A B C : List DV) : List DV := [.sl 0 A, .sl 0 B, .sl 0 C]
def stC0 (X : List DV) (s : Int) (i : Nat) : LS := ⟨[(0, .sl 0 X), (3, .i s), (9, .sl 0 X), (10, .i 3), (11, .i i)], []⟩
def stC1 (X acc : List DV) (i : Nat) : LS := ⟨[(6, .own 12312 acc.length 0 acc.length), (25, .sl 0 X), (26, .i 3), (27, .i i)], [(12312, acc)]⟩
theorem cc_step0 {X es : List DV} {i : Nat} {s : Int} (h : atI X (i : Int) = some (.sl 0 es)) (hi : i < 3) (h0 : 0 ≤ s) (hb : s + es.length ≤ 1000000) :
  ex lf F_slices_Concat_impl_Choice_impl_Choice_L0 (stC0 X s i) = some (.normal, stC0 X (s + es.length) (i + 1)) := by
 have w1 : wr ((i : Int) + 1) = ((i + 1 : Nat) : Int) := by rw [wr_id (by omega) (by omega)]; omega
 have w2 : wr (s + (es.length : Int)) = s + es.length := wr_id (by omega) (by omega)
 have hi' : (i : Int) < 3 := by omega
 have ng : ¬ s + (es.length : Int) < 0 := by omega
 unfold stC0
 simp [F_slices_Concat_impl_Choice_impl_Choice_L0, hi', h, w1, w2, ng, -Int.natCast_add]
theorem cc_step1 {X es acc : List DV} {i : Nat} (h : atI X (i : Int) = some (.sl 0 es)) (hi : i < 3) (hb : acc.length + es.length ≤ 1000000) (hc : ∀ e ∈ es, e.cells.length = 3) :
  ex lf F_slices_Concat_impl_Choice_impl_Choice_L1 (stC1 X acc i) = some (.normal, stC1 X (acc ++ es) (i + 1)) := by
 have w1 : wr ((i : Int) + 1) = ((i + 1 : Nat) : Int) := by rw [wr_id (by omega) (by omega)]; omega
 have hi' : (i : Int) < 3 := by omega
 have lb : acc.length + es.length ≤ bound := by unfold bound; omega
 unfold stC1
 rw [List.length_append]
 simp [F_slices_Concat_impl_Choice_impl_Choice_L1, hi', h, w1, lb, if_pos hc, -Int.natCast_add]
set_option maxHeartbeats 4000000 in
theorem c_Concat {A B C : List DV} (hA : 0 < A.length) (hl : A.length + B.length + C.length ≤ 1000000) (cA : ∀ e ∈ A, e.cells.length = 3) (cB : ∀ e ∈ B, e.cells.length = 3) (cC : ∀ e ∈ C, e.cells.length = 3) :
  call lf n_slices_Concat_impl_Choice_impl_Choice [.sl 0 [.sl 0 A, .sl 0 B, .sl 0 C]] = some (.fr 3 (A ++ B ++ C), []) := by
 have a0 : atI (rw3 A B C) ((0 : Nat) : Int) = some (.sl 0 A) := rfl
 have a1 : atI (rw3 A B C) ((1 : Nat) : Int) = some (.sl 0 B) := rfl
 have a2 : atI (rw3 A B C) ((2 : Nat) : Int) = some (.sl 0 C) := rfl
 have L0 : ex lf F_slices_Concat_impl_Choice_impl_Choice_W0 (stC0 (rw3 A B C) 0 0) = some (.exit 0, stC0 (rw3 A B C) ((A.length : Int) + B.length + C.length) 3) := by
  rw [w_slices_Concat_impl_Choice_impl_Choice_0, cc_step0 a0 (by omega) (by omega) (by omega)]
  simp only
  rw [w_slices_Concat_impl_Choice_impl_Choice_0, cc_step0 a1 (by omega) (by omega) (by omega)]
  simp only
  rw [w_slices_Concat_impl_Choice_impl_Choice_0, cc_step0 a2 (by omega) (by omega) (by omega)]
  simp only
  rw [w_slices_Concat_impl_Choice_impl_Choice_0, Int.zero_add]
  unfold stC0
  generalize rw3 A B C = X
  simp [F_slices_Concat_impl_Choice_impl_Choice_L0]
 have L1 : ex lf F_slices_Concat_impl_Choice_impl_Choice_W1 (stC1 (rw3 A B C) [] 0) = some (.exit 2, stC1 (rw3 A B C) (A ++ B ++ C) 3) := by
  rw [w_slices_Concat_impl_Choice_impl_Choice_1, cc_step1 a0 (by omega) (by simp; omega) cA]
  simp only
  rw [w_slices_Concat_impl_Choice_impl_Choice_1, cc_step1 a1 (by omega) (by simp; omega) cB]
  simp only
  rw [w_slices_Concat_impl_Choice_impl_Choice_1, cc_step1 a2 (by omega) (by simp; omega) cC]
  simp only
  rw [w_slices_Concat_impl_Choice_impl_Choice_1, List.nil_append]
  unfold stC1
  generalize rw3 A B C = X
  simp [F_slices_Concat_impl_Choice_impl_Choice_L1]
 have G : call lf n_slices_Grow_impl_Choice_impl_Choice [.nil, .i ((A.length : Int) + B.length + C.length)] = some (.fr 3 [], []) := by
  rw [call_prim lf n_slices_Grow_impl_Choice_impl_Choice _ (F := F_slices_Grow_impl_Choice_impl_Choice) rfl rfl, grow_k, if_pos]
  unfold bound
  omega
 have rl : (rw3 A B C).length = 3 := rfl
 show call lf n_slices_Concat_impl_Choice_impl_Choice [.sl 0 (rw3 A B C)] = _
 rw [call_k lf n_slices_Concat_impl_Choice_impl_Choice _ (F := F_slices_Concat_impl_Choice_impl_Choice) rfl rfl]
 unfold stC0 at L0
 unfold stC1 at L1
 simp only [Int.natCast_zero, List.length_nil] at L0 L1
 generalize rw3 A B C = X at *
 generalize (A.length : Int) + B.length + C.length = n at *
 generalize A ++ B ++ C = Y at *
 simp [F_slices_Concat_impl_Choice_impl_Choice, L0, L1, G, rl]
/-- a choice, and what lies behind its answers -/
def lay3 (k place : Nat) (N Y : List C3) : List C3 := ((k : Int), (if N = [] then -1 else (place : Int) + 1), (if Y = [] then -1 else (place : Int) + 1 + N.length)) :: (N ++ Y)
theorem lay_ser (k place : Nat) (n y : PT) : lay3 k place (ser n (place + 1)) (ser y (place + 1 + n.size)) = ser (.ask k n y) place := by
 unfold lay3
 simp only [ser]
 congr 2
 ·congr 1
  ·cases n with
   | stop => simp [ser, rt]
   | ask a b c => simp [ser, rt]
  ·cases y with
   | stop => simp [ser, rt]
   | ask a b c => simp [ser, rt, ser_len]
theorem cells_e3 (P : List C3) : ∀ e ∈ P.map e3, e.cells.length = 3 := fun e he => by
 obtain ⟨x, _, rfl⟩ := List.mem_map.1 he
 rfl
end
section
/-- what it costs, the parts in which it ends all, and its whole -/
abbrev I3 := Int × Int × Int
def gM : List I3 → Int
 | [] => 1
 | x :: r => x.2.2 * gM r
def gD : List I3 → Int
 | [] => 0
 | x :: r => x.1 * gM r + (x.2.2 - x.2.1) * gD r
def iOk (x : I3) : Prop := 0 ≤ x.1 ∧ 0 < x.2.1 ∧ x.2.1 ≤ x.2.2
def gLe (a b : I3) : Bool := decide (a.1 * b.2.1 ≤ b.1 * a.2.1)
theorem gM_pos : ∀ {l : List I3}, (∀ x ∈ l, iOk x) → 0 < gM l
 | [], _ => by simp [gM]
 | x :: r, h => by
  have hx := h x List.mem_cons_self
  have := gM_pos (l := r) (fun y hy => h y (List.mem_cons_of_mem _ hy))
  exact Int.mul_pos (by unfold iOk at hx; omega) this
theorem gM_perm {p q : List I3} (h : p.Perm q) : gM p = gM q := by
 induction h with
 | nil => rfl
 | cons x _ ih => simp only [gM]; rw [ih]
 | swap x y l => simp only [gM]; rw [Int.mul_left_comm]
 | trans _ _ a b => exact a.trans b
theorem gD_nn : ∀ {l : List I3}, (∀ x ∈ l, iOk x) → 0 ≤ gD l
 | [], _ => by simp [gD]
 | x :: r, h => by
  obtain ⟨h1, h2, h3⟩ := h x List.mem_cons_self
  have hr : ∀ y ∈ r, iOk y := fun y hy => h y (List.mem_cons_of_mem _ hy)
  have a := Int.mul_nonneg h1 (Int.le_of_lt (gM_pos hr))
  have b := Int.mul_nonneg (show 0 ≤ x.2.2 - x.2.1 by omega) (gD_nn hr)
  simp only [gD]
  omega
theorem gD_swap (x y : I3) (r : List I3) : gD (x :: y :: r) + y.1 * x.2.1 * gM r = gD (y :: x :: r) + x.1 * y.2.1 * gM r := by
 simp only [gD, gM]
 grind
theorem gLe_trans {a b c : I3} (ha : iOk a) (hb : iOk b) (hc : iOk c) (h1 : gLe a b = true) (h2 : gLe b c = true) : gLe a c = true := by
 unfold gLe at *
 rw [decide_eq_true_eq] at *
 refine Int.le_of_mul_le_mul_right (a := b.2.1) ?_ hb.2.1
 have q1 := Int.mul_le_mul_of_nonneg_right h1 (show 0 ≤ c.2.1 from Int.le_of_lt hc.2.1)
 have q2 := Int.mul_le_mul_of_nonneg_right h2 (show 0 ≤ a.2.1 from Int.le_of_lt ha.2.1)
 grind
theorem gLe_total {a b : I3} (h : gLe a b = false) : gLe b a = true := by
 unfold gLe at *
 rw [decide_eq_true_eq]
 rw [decide_eq_false_iff_not] at h
 omega
def insI (x : I3) : List I3 → List I3
 | [] => [x]
 | o :: r => if gLe o x = true then o :: insI x r else x :: o :: r
def srtI : List I3 → List I3
 | [] => []
 | x :: r => insI x (srtI r)
theorem insI_perm (x : I3) : ∀ l : List I3, (insI x l).Perm (x :: l)
 | [] => List.Perm.refl _
 | o :: r => by
  simp only [insI]
  split
  ·exact ((insI_perm x r).cons o).trans (List.Perm.swap x o r)
  ·exact List.Perm.refl _
theorem srtI_perm : ∀ l : List I3, (srtI l).Perm l
 | [] => List.Perm.refl _
 | x :: r => (insI_perm x (srtI r)).trans ((srtI_perm r).cons x)
theorem insI_sorted {x : I3} (hx : iOk x) : ∀ {l : List I3}, (∀ o ∈ l, iOk o) → l.Pairwise (fun a b => gLe a b = true) → (insI x l).Pairwise (fun a b => gLe a b = true)
 | [], _, _ => List.pairwise_singleton _ _
 | o :: r, hm, hp => by
  obtain ⟨p1, p2⟩ := List.pairwise_cons.1 hp
  have ho := hm o List.mem_cons_self
  have hr : ∀ y ∈ r, iOk y := fun y hy => hm y (List.mem_cons_of_mem _ hy)
  simp only [insI]
  by_cases hc : gLe o x = true
  ·rw [if_pos hc]
   refine List.pairwise_cons.2 ⟨fun y hy => ?_, insI_sorted hx hr p2⟩
   rcases List.mem_cons.1 ((insI_perm x r).mem_iff.1 hy) with rfl | hy
   ·exact hc
   ·exact p1 y hy
  ·rw [if_neg hc]
   have hc' : gLe x o = true := gLe_total (by simpa using hc)
   refine List.pairwise_cons.2 ⟨fun y hy => ?_, hp⟩
   rcases List.mem_cons.1 hy with rfl | hy
   ·exact hc'
   ·exact gLe_trans hx ho (hr y hy) hc' (p1 y hy)
theorem srtI_sorted : ∀ {l : List I3}, (∀ x ∈ l, iOk x) → (srtI l).Pairwise (fun a b => gLe a b = true)
 | [], _ => List.Pairwise.nil
 | x :: r, h => insI_sorted (h x List.mem_cons_self) (fun o ho => h o (List.mem_cons_of_mem _ ((srtI_perm r).mem_iff.1 ho))) (srtI_sorted fun y hy => h y (List.mem_cons_of_mem _ hy))
/-- the least ratio moved to the front -/
theorem gD_front {a : I3} (ha : iOk a) : ∀ (p q : List I3), (∀ x ∈ p, iOk x) → (∀ x ∈ q, iOk x) → (∀ x ∈ p, gLe a x = true) → gD (a :: (p ++ q)) ≤ gD (p ++ a :: q)
 | [], q, _, _, _ => Int.le_refl _
 | x :: p, q, hp, hq, hl => by
  have s := gD_swap a x (p ++ q)
  have hx := hp x List.mem_cons_self
  have hp' : ∀ y ∈ p, iOk y := fun y hy => hp y (List.mem_cons_of_mem _ hy)
  have l0 := hl x List.mem_cons_self
  unfold gLe at l0
  rw [decide_eq_true_eq] at l0
  have f := gD_front ha p q hp' hq (fun y hy => hl y (List.mem_cons_of_mem _ hy))
  have gm : gM (p ++ a :: q) = gM (a :: (p ++ q)) := gM_perm List.perm_middle
  have mp : 0 < gM (p ++ q) := gM_pos fun y hy => (List.mem_append.1 hy).elim (hp' y) (hq y)
  have k1 := Int.mul_le_mul_of_nonneg_right l0 (Int.le_of_lt mp)
  have k2 := Int.mul_le_mul_of_nonneg_left f (show 0 ≤ x.2.2 - x.2.1 by unfold iOk at hx; omega)
  have e1 : gD (x :: a :: (p ++ q)) = x.1 * gM (a :: (p ++ q)) + (x.2.2 - x.2.1) * gD (a :: (p ++ q)) := rfl
  have e2 : gD (x :: (p ++ a :: q)) = x.1 * gM (p ++ a :: q) + (x.2.2 - x.2.1) * gD (p ++ a :: q) := rfl
  rw [gm] at e2
  show gD (a :: x :: (p ++ q)) ≤ gD (x :: (p ++ a :: q))
  omega
theorem gD_least : ∀ {l p : List I3}, (∀ x ∈ l, iOk x) → l.Pairwise (fun a b => gLe a b = true) → p.Perm l → gD l ≤ gD p
 | [], p, _, _, hp => by rw [hp.eq_nil]; exact Int.le_refl _
 | a :: l, p, hm, hs, hp => by
  obtain ⟨p1, p2, rfl⟩ := List.append_of_mem (hp.mem_iff.2 List.mem_cons_self)
  have hpp : (p1 ++ p2).Perm l := (List.perm_cons a).1 (List.perm_middle.symm.trans hp)
  obtain ⟨s1, s2⟩ := List.pairwise_cons.1 hs
  have ha := hm a List.mem_cons_self
  have hl : ∀ x ∈ l, iOk x := fun x hx => hm x (List.mem_cons_of_mem _ hx)
  have hm1 : ∀ x ∈ p1, x ∈ l := fun x hx => hpp.mem_iff.1 (List.mem_append_left _ hx)
  have hm2 : ∀ x ∈ p2, x ∈ l := fun x hx => hpp.mem_iff.1 (List.mem_append_right _ hx)
  have f := gD_front ha p1 p2 (fun x hx => hl x (hm1 x hx)) (fun x hx => hl x (hm2 x hx)) (fun x hx => s1 x (hm1 x hx))
  have i := gD_least (l := l) (p := p1 ++ p2) hl s2 hpp
  have e1 : gD (a :: l) = a.1 * gM l + (a.2.2 - a.2.1) * gD l := rfl
  have e2 : gD (a :: (p1 ++ p2)) = a.1 * gM (p1 ++ p2) + (a.2.2 - a.2.1) * gD (p1 ++ p2) := rfl
  rw [gM_perm hpp] at e2
  have k := Int.mul_le_mul_of_nonneg_left i (show 0 ≤ a.2.2 - a.2.1 by unfold iOk at ha; omega)
  omega
/-- what the best order costs -/
def gB (l : List I3) : Int := gD (srtI l)
theorem gB_le {l p : List I3} (h : ∀ x ∈ l, iOk x) (hp : p.Perm l) : gB l ≤ gD p :=
 gD_least (fun x hx => h x ((srtI_perm l).mem_iff.1 hx)) (srtI_sorted h) (hp.trans (srtI_perm l).symm)
theorem gB_sorted {l p : List I3} (h : ∀ x ∈ l, iOk x) (hp : p.Perm l) (hs : p.Pairwise (fun a b => gLe a b = true)) : gB l = gD p := by
 have a := gB_le h hp
 have b := gD_least (l := p) (p := srtI l) (fun x hx => h x (hp.mem_iff.1 hx)) hs ((srtI_perm l).trans hp.symm)
 unfold gB at *
 omega
theorem gB_nn {l : List I3} (h : ∀ x ∈ l, iOk x) : 0 ≤ gB l := gD_nn fun x hx => h x ((srtI_perm l).mem_iff.1 hx)
theorem gB_perm {l p : List I3} (h : ∀ x ∈ l, iOk x) (hp : p.Perm l) : gB p = gB l := by
 have hp' : ∀ x ∈ p, iOk x := fun x hx => h x (hp.mem_iff.1 hx)
 exact (gB_sorted h ((srtI_perm p).trans hp) (srtI_sorted hp')).symm
theorem gB_zero {l : List I3} (h : ∀ x ∈ l, iOk x) {x : I3} (hx : x ∈ l) (h1 : x.1 = 0) (h2 : x.2.1 = x.2.2) : gB l = 0 := by
 obtain ⟨A, B, rfl⟩ := List.append_of_mem hx
 have a := gB_nn h
 have b := gB_le h (p := x :: (A ++ B)) List.perm_middle.symm
 simp only [gD] at b
 rw [h1, h2] at b
 simp at b
 omega
end
section
def pA (us : List T) (k : Nat) : Int := (us.getD k (0, 0)).2
def itT (us : List T) (k : Nat) : I3 := (6 * cA us k, pA us k, 6)
/-- what a group costs at best, and the chance that none comes out yes -/
def grC (us : List T) (l : List Nat) : Int := gB (l.map (itT us))
def grN (us : List T) : List Nat → Int
 | [] => 1
 | k :: r => (6 - pA us k) * grN us r
def gI (us : List T) (l : List Nat) : I3 := (grC us l, grN us l, 6 ^ l.length)
theorem pA_bd {us : List T} (h : us.all tOk = true) {k : Nat} (hk : k < us.length) : 1 ≤ pA us k ∧ pA us k ≤ 5 := by
 unfold pA
 have e : us.getD k (0, 0) = us[k] := by simp [List.getD, hk]
 rw [e]
 have := tOk_iff.1 (List.all_eq_true.1 h us[k] (List.getElem_mem hk))
 omega
theorem itT_ok {us : List T} (h : us.all tOk = true) {k : Nat} (hk : k < us.length) : iOk (itT us k) := by
 have a := pA_bd h hk
 have b := cA_nn h k
 refine ⟨?_, ?_, ?_⟩ <;> simp only [itT] <;> omega
theorem its_ok {us : List T} (h : us.all tOk = true) {l : List Nat} (hl : ∀ k ∈ l, k < us.length) : ∀ x ∈ l.map (itT us), iOk x := fun x hx => by
 obtain ⟨k, hk, rfl⟩ := List.mem_map.1 hx
 exact itT_ok h (hl k hk)
theorem its_M (us : List T) : ∀ l : List Nat, gM (l.map (itT us)) = 6 ^ l.length
 | [] => rfl
 | k :: r => by
  simp only [List.map_cons, gM, List.length_cons]
  rw [its_M us r, Int.pow_succ, Int.mul_comm]
  rfl
theorem grN_bd {us : List T} (h : us.all tOk = true) : ∀ {l : List Nat}, (∀ k ∈ l, k < us.length) → 0 < grN us l ∧ grN us l ≤ 6 ^ l.length
 | [], _ => by simp [grN]
 | k :: r, hl => by
  obtain ⟨a1, a2⟩ := grN_bd h (l := r) (fun j hj => hl j (List.mem_cons_of_mem _ hj))
  have b := pA_bd h (hl k List.mem_cons_self)
  simp only [grN, List.length_cons]
  refine ⟨Int.mul_pos (by omega) a1, ?_⟩
  have k1 := Int.mul_le_mul_of_nonneg_right (show 6 - pA us k ≤ 6 by omega) (Int.le_of_lt a1)
  rw [Int.pow_succ]
  omega
theorem grN_perm {us : List T} {l l' : List Nat} (h : l.Perm l') : grN us l = grN us l' := by
 induction h with
 | nil => rfl
 | cons x _ ih => simp only [grN]; rw [ih]
 | swap x y l => simp only [grN]; rw [Int.mul_left_comm]
 | trans _ _ a b => exact a.trans b
theorem gI_ok {us : List T} (h : us.all tOk = true) {l : List Nat} (hl : ∀ k ∈ l, k < us.length) : iOk (gI us l) :=
 ⟨gB_nn (its_ok h hl), (grN_bd h hl).1, (grN_bd h hl).2⟩
theorem grC_perm {us : List T} (h : us.all tOk = true) {l l' : List Nat} (hl : ∀ k ∈ l, k < us.length) (hp : l'.Perm l) : grC us l' = grC us l :=
 gB_perm (its_ok h hl) (hp.map _)
def gYes (ks : List Int) (g : List Nat) : Bool := g.any fun k => ks[k]? == some 1
def gRem (ks : List Int) (g : List Nat) : List Nat := g.filter fun k => ks[k]? == some (-1)
def gRest (us : List T) (ks : List Int) : List (List Nat) → List I3
 | [] => []
 | g :: r => if gYes ks g then gRest us ks r else gI us (gRem ks g) :: gRest us ks r
theorem gRest_app (us : List T) (ks : List Int) : ∀ A B : List (List Nat), gRest us ks (A ++ B) = gRest us ks A ++ gRest us ks B
 | [], B => rfl
 | g :: A, B => by
  simp only [List.cons_append, gRest]
  rw [gRest_app us ks A B]
  split <;> rfl
theorem gRest_ok {us : List T} (h : us.all tOk = true) (ks : List Int) : ∀ {L : List (List Nat)}, (∀ g ∈ L, ∀ k ∈ g, k < us.length) → ∀ x ∈ gRest us ks L, iOk x
 | [], _, x, hx => by simp [gRest] at hx
 | g :: r, hL, x, hx => by
  have hr : ∀ g ∈ r, ∀ k ∈ g, k < us.length := fun g' hg' => hL g' (List.mem_cons_of_mem _ hg')
  have ho := gI_ok h (l := gRem ks g) (fun k hk => hL g List.mem_cons_self k (List.mem_filter.1 hk).1)
  simp only [gRest] at hx
  split at hx
  ·exact gRest_ok h ks hr x hx
  ·rcases List.mem_cons.1 hx with rfl | hx
   ·exact ho
   ·exact gRest_ok h ks hr x hx
theorem gYes_mono {ks : List Int} {k : Nat} {v : Int} (hk : ks[k]? = some (-1)) {g : List Nat} (h : gYes ks g = true) : gYes (ks.set k v) g = true := by
 unfold gYes at *
 rw [List.any_eq_true] at *
 obtain ⟨j, h1, h2⟩ := h
 refine ⟨j, h1, ?_⟩
 rw [beq_iff_eq] at *
 by_cases e : k = j
 ·subst e
  rw [hk] at h2
  cases h2
 ·rw [List.getElem?_set_ne e]
  exact h2
theorem gYes_yes {ks : List Int} {k : Nat} (hk : ks[k]? = some (-1)) {g : List Nat} (h : k ∈ g) : gYes (ks.set k 1) g = true := by
 unfold gYes
 rw [List.any_eq_true]
 refine ⟨k, h, ?_⟩
 rw [List.getElem?_set_self (List.getElem?_eq_some_iff.1 hk).1, beq_iff_eq]
/-- groups: all tests, each once -/
structure Gok (m : Nat) (L : List (List Nat)) : Prop where
 lt : ∀ g ∈ L, ∀ k ∈ g, k < m
 nd : L.flatten.Nodup
 all : ∀ k, k < m → k ∈ L.flatten
 ne : ∀ g ∈ L, g ≠ []
/-- the value of groups -/
def gV (L : List (List Nat)) (s : Nat) : Bool := L.all fun g => g.any fun k => s.testBit k
theorem gRest_fcd {us t : List T} (h : us.all tOk = true) {L : List (List Nat)} (hL : ∀ g ∈ L, ∀ k ∈ g, k < us.length) (hv : ∀ s, s < 2 ^ us.length → tv t s = gV L s) {ks : List Int} (hl : ks.length = us.length) (hk : ks.all kOk = true) (hf : fcd us.length t ks = true) :
  gB (gRest us ks L) = 0 := by
 have ok := gRest_ok h ks hL
 obtain ⟨b, hb⟩ := (fcd_iff hl hk).1 hf
 by_cases hz : ∃ g ∈ L, gYes ks g = false ∧ gRem ks g = []
 ·obtain ⟨g, h1, h2, h3⟩ := hz
  have hm : gI us [] ∈ gRest us ks L := by
   obtain ⟨A, B, rfl⟩ := List.append_of_mem h1
   rw [gRest_app]
   refine List.mem_append_right _ ?_
   simp only [gRest]
   rw [h2, h3, if_neg (by simp)]
   exact List.mem_cons_self
  exact gB_zero ok hm rfl rfl
 ·have kv : ∀ k, k < us.length → ks[k]? = some (-1) ∨ ks[k]? = some 0 ∨ ks[k]? = some 1 := fun k hk' => by
   have e := List.getElem?_eq_getElem (l := ks) (i := k) (by omega)
   have := List.all_eq_true.1 hk ks[k] (List.getElem_mem (by omega))
   unfold kOk at this
   simp only [decide_eq_true_eq] at this
   rw [e]
   simp only [Option.some.injEq]
   omega
  have hz1 : ∀ g ∈ L, ∃ k ∈ g, ks[k]? ≠ some 0 := fun g hg => by
   cases hy : gYes ks g with
   | true =>
    unfold gYes at hy
    obtain ⟨k, k1, k2⟩ := List.any_eq_true.1 hy
    rw [beq_iff_eq] at k2
    exact ⟨k, k1, by rw [k2]; simp⟩
   | false =>
    have : gRem ks g ≠ [] := fun e => hz ⟨g, hg, hy, e⟩
    obtain ⟨k, hk'⟩ := List.exists_mem_of_ne_nil _ this
    obtain ⟨k1, k2⟩ := List.mem_filter.1 hk'
    rw [beq_iff_eq] at k2
    exact ⟨k, k1, by rw [k2]; simp⟩
  have ag : ∀ (d : Bool), agB ks (tabN (fun k => if ks[k]? = some (-1) then d else ks[k]? == some 1) us.length) = true := fun d => by
   rw [agB_iff]
   intro k v hkv
   have hlt := (List.getElem?_eq_some_iff.1 hkv).1
   rcases kv k (by omega) with q | q | q
   ·left; rw [q] at hkv; exact (Option.some.inj hkv).symm
   ·right
    rw [tabN_bit, decide_eq_true (show k < us.length by omega), q]
    rw [q] at hkv
    rw [← Option.some.inj hkv]
    simp [bI]
   ·right
    rw [tabN_bit, decide_eq_true (show k < us.length by omega), q]
    rw [q] at hkv
    rw [← Option.some.inj hkv]
    simp [bI]
  have v1 : gV L (tabN (fun k => if ks[k]? = some (-1) then true else ks[k]? == some 1) us.length) = true := by
   unfold gV
   rw [List.all_eq_true]
   intro g hg
   obtain ⟨k, k1, k2⟩ := hz1 g hg
   rw [List.any_eq_true]
   refine ⟨k, k1, ?_⟩
   rw [tabN_bit, decide_eq_true (hL g hg k k1)]
   rcases kv k (hL g hg k k1) with q | q | q
   ·simp [q]
   ·exact absurd q k2
   ·simp [q]
  have bt : b = true := by
   have := hb _ (tabN_lt _ _) (ag true)
   rw [hv _ (tabN_lt _ _), v1] at this
   exact this.symm
  have v0 : gV L (tabN (fun k => if ks[k]? = some (-1) then false else ks[k]? == some 1) us.length) = true := by
   have := hb _ (tabN_lt _ _) (ag false)
   rw [hv _ (tabN_lt _ _)] at this
   rw [this, bt]
  have all1 : ∀ g ∈ L, gYes ks g = true := fun g hg => by
   unfold gV at v0
   have := List.all_eq_true.1 v0 g hg
   obtain ⟨k, k1, k2⟩ := List.any_eq_true.1 this
   unfold gYes
   rw [List.any_eq_true]
   refine ⟨k, k1, ?_⟩
   rw [tabN_bit, decide_eq_true (hL g hg k k1), Bool.true_and] at k2
   by_cases q : ks[k]? = some (-1)
   ·rw [if_pos q] at k2; cases k2
   ·rw [if_neg q] at k2; exact k2
  have em : ∀ L' : List (List Nat), (∀ g ∈ L', gYes ks g = true) → gRest us ks L' = [] := fun L' => by
   induction L' with
   | nil => intro _; rfl
   | cons g r ih =>
    intro hh
    simp only [gRest]
    rw [hh g List.mem_cons_self, if_pos rfl]
    exact ih fun x hx => hh x (List.mem_cons_of_mem _ hx)
  rw [em L all1]
  rfl
end
section
/-- one group after the other -/
def gG : List Nat → PT → PT
 | [], _ => .stop
 | k :: r, y => .ask k (gG r y) y
def gT : List (List Nat) → PT
 | [] => .stop
 | g :: R => gG g (gT R)
/-- what a group costs in its own order -/
def gIo (us : List T) (l : List Nat) : I3 := (gD (l.map (itT us)), grN us l, 6 ^ l.length)
theorem gG_cost {us : List T} {y : PT} {M D : Int} : ∀ (g : List Nat) (ks : List Int), ks.length = us.length → g.Nodup → (∀ k ∈ g, ks[k]? = some (-1)) →
  (∀ ks' : List Int, ks'.length = us.length → (∀ k : Nat, k ∉ g → ks'[k]? = ks[k]?) → tA us ks' y * M = wk us ks' * D) →
  tA us ks (gG g y) * (6 ^ g.length * M) = wk us ks * (gD (g.map (itT us)) * M + (6 ^ g.length - grN us g) * D)
 | [], ks, _, _, _, _ => by simp [gG, tA, gD, grN]
 | k :: g, ks, hl, nd, hu, hR => by
  obtain ⟨n1, n2⟩ := List.nodup_cons.1 nd
  have h1 := hu k List.mem_cons_self
  obtain ⟨w, w1, w2, w3⟩ := wk_put hl h1
  change wk us (ks.set k 0) = w * (6 - pA us k) at w2
  change wk us (ks.set k 1) = w * pA us k at w3
  have i0 := gG_cost (y := y) (M := M) (D := D) g (ks.set k 0) (by simpa using hl) n2 (fun j hj => by
   rw [List.getElem?_set_ne (show k ≠ j from fun q => n1 (by rw [q]; exact hj))]
   exact hu j (List.mem_cons_of_mem _ hj)) (fun ks' hl' hs => hR ks' hl' fun j hj => by
    rw [hs j fun q => hj (List.mem_cons_of_mem _ q), List.getElem?_set_ne (show k ≠ j from fun q => hj (by rw [q]; exact List.mem_cons_self))])
  have i1 := hR (ks.set k 1) (by simpa using hl) (fun j hj => List.getElem?_set_ne (show k ≠ j from fun q => hj (by rw [q]; exact List.mem_cons_self)))
  simp only [gG, tA, List.length_cons, List.map_cons, gD, grN]
  rw [its_M, w1]
  rw [w2] at i0
  rw [w3] at i1
  have e1 : (itT us k).1 = 6 * cA us k := rfl
  have e2 : (itT us k).2.2 - (itT us k).2.1 = 6 - pA us k := rfl
  rw [e1, e2, Int.pow_succ]
  generalize (6 : Int) ^ g.length = X at *
  generalize gD (g.map (itT us)) = C at *
  generalize grN us g = N at *
  generalize tA us (ks.set k 0) (gG g y) = t0 at *
  generalize tA us (ks.set k 1) y = t1 at *
  generalize pA us k = p at *
  generalize cA us k = c at *
  grind
theorem gT_cost {us : List T} : ∀ (R : List (List Nat)) (ks : List Int), ks.length = us.length → R.flatten.Nodup → (∀ k ∈ R.flatten, ks[k]? = some (-1)) →
  tA us ks (gT R) * gM (R.map (gIo us)) = wk us ks * gD (R.map (gIo us))
 | [], ks, _, _, _ => by simp [gT, tA, gD]
 | g :: R, ks, hl, nd, hu => by
  rw [List.flatten_cons] at nd hu
  obtain ⟨n1, n2, n3⟩ := List.nodup_append.1 nd
  have := gG_cost (us := us) (y := gT R) (M := gM (R.map (gIo us))) (D := gD (R.map (gIo us))) g ks hl n1 (fun k hk => hu k (List.mem_append_left _ hk)) (fun ks' hl' hs => gT_cost R ks' hl' n2 fun k hk => by
   rw [hs k fun q => n3 k q k hk rfl]
   exact hu k (List.mem_append_right _ hk))
  exact this
theorem gD_pos {l : List I3} (h : ∀ x ∈ l, iOk x) (hp : ∀ x ∈ l, 0 < x.1) (hne : l ≠ []) : 0 < gD l := by
 cases l with
 | nil => exact absurd rfl hne
 | cons x r =>
  have hr : ∀ y ∈ r, iOk y := fun y hy => h y (List.mem_cons_of_mem _ hy)
  have hx := h x List.mem_cons_self
  have a := Int.mul_pos (hp x List.mem_cons_self) (gM_pos hr)
  have b := Int.mul_nonneg (show 0 ≤ x.2.2 - x.2.1 by unfold iOk at hx; omega) (gD_nn hr)
  simp only [gD]
  omega
theorem gB_pos {l : List I3} (h : ∀ x ∈ l, iOk x) (hp : ∀ x ∈ l, 0 < x.1) (hne : l ≠ []) : 0 < gB l := by
 have P := srtI_perm l
 refine gD_pos (fun x hx => h x (P.mem_iff.1 hx)) (fun x hx => hp x (P.mem_iff.1 hx)) fun e => hne ?_
 rw [e] at P
 exact P.symm.eq_nil
theorem gI_pos {us : List T} (h : us.all tOk = true) {l : List Nat} (hl : ∀ k ∈ l, k < us.length) (hne : l ≠ []) : 0 < (gI us l).1 := by
 refine gB_pos (its_ok h hl) (fun x hx => ?_) (by simpa using hne)
 obtain ⟨k, hk, rfl⟩ := List.mem_map.1 hx
 have := (cA_nn h k).2.1 (hl k hk)
 show 0 < 6 * cA us k
 omega
theorem gRest_skip {us : List T} {ks : List Int} : ∀ {D : List (List Nat)}, (∀ g ∈ D, gYes ks g = true) → gRest us ks D = []
 | [], _ => rfl
 | g :: r, h => by
  simp only [gRest]
  rw [h g List.mem_cons_self, if_pos rfl]
  exact gRest_skip fun x hx => h x (List.mem_cons_of_mem _ hx)
theorem gRest_pos {us : List T} (h : us.all tOk = true) {ks : List Int} : ∀ {R : List (List Nat)}, (∀ g ∈ R, ∀ k ∈ g, k < us.length) → (∀ g ∈ R, gRem ks g ≠ []) → ∀ x ∈ gRest us ks R, 0 < x.1
 | [], _, _, x, hx => by simp [gRest] at hx
 | g :: r, hl, hn, x, hx => by
  have ih := gRest_pos h (ks := ks) (R := r) (fun g' hg' => hl g' (List.mem_cons_of_mem _ hg')) (fun g' hg' => hn g' (List.mem_cons_of_mem _ hg'))
  simp only [gRest] at hx
  split at hx
  ·exact ih x hx
  ·rcases List.mem_cons.1 hx with rfl | hx
   ·exact gI_pos h (fun k hk => hl g List.mem_cons_self k (List.mem_filter.1 hk).1) (hn g List.mem_cons_self)
   ·exact ih x hx
end
section
theorem gV_app (A B : List (List Nat)) (s : Nat) : gV (A ++ B) s = (gV A s && gV B s) := by simp [gV]
theorem gT_ok {us t : List T} (h : us.all tOk = true) : ∀ (R D : List (List Nat)) (ks : List Int), ks.length = us.length → ks.all kOk = true →
  (∀ g ∈ D ++ R, ∀ k ∈ g, k < us.length) → (∀ g ∈ R, g ≠ []) → (∀ s, s < 2 ^ us.length → tv t s = gV (D ++ R) s) → (∀ g ∈ D, gYes ks g = true) → R.flatten.Nodup → (∀ k ∈ R.flatten, ks[k]? = some (-1)) →
  okT us.length t ks (gT R)
 | [], D, ks, hl, hk, hlt, _, hv, hD, _, _ => by
  rw [List.append_nil] at hv hlt
  refine (fcd_iff hl hk).2 ⟨true, fun s hs ha => ?_⟩
  rw [hv s hs]
  unfold gV
  rw [List.all_eq_true]
  intro g hg
  have hy := hD g hg
  unfold gYes at hy
  obtain ⟨k, k1, k2⟩ := List.any_eq_true.1 hy
  rw [beq_iff_eq] at k2
  rw [List.any_eq_true]
  refine ⟨k, k1, ?_⟩
  have := (agB_iff.1 ha k 1 k2).resolve_left (by omega)
  cases hb : s.testBit k with
  | true => rfl
  | false => rw [hb] at this; simp [bI] at this
 | g0 :: R, D, ks, hl, hk, hlt, hne, hv, hD, nd, hu => by
  rw [List.flatten_cons] at nd hu
  obtain ⟨n1, n2, n3⟩ := List.nodup_append.1 nd
  have key : ∀ (g P : List Nat) (ks : List Int), P ++ g = g0 → ks.length = us.length → ks.all kOk = true → (∀ g ∈ D, gYes ks g = true) → (∀ k ∈ P, ks[k]? = some 0) → (∀ k ∈ g, ks[k]? = some (-1)) → (∀ k ∈ R.flatten, ks[k]? = some (-1)) →
    okT us.length t ks (gG g (gT R)) := by
   intro g
   induction g with
   | nil =>
    intro P ks e hl hk hD hP _ _
    rw [List.append_nil] at e
    subst e
    refine (fcd_iff hl hk).2 ⟨false, fun s hs ha => ?_⟩
    rw [hv s hs, gV_app]
    have : gV (P :: R) s = false := by
     unfold gV
     rw [List.all_cons, Bool.and_eq_false_iff]
     left
     rw [List.any_eq_false]
     intro k hk'
     have := (agB_iff.1 ha k 0 (hP k hk')).resolve_left (by omega)
     intro hb
     rw [hb] at this
     simp [bI] at this
    rw [this, Bool.and_false]
   | cons k g ih =>
    intro P ks e hl hk hD hP hg hR
    have h1 := hg k List.mem_cons_self
    have hn : (P ++ k :: g).Nodup := by rw [e]; exact n1
    obtain ⟨m1, m2, m3⟩ := List.nodup_append.1 hn
    obtain ⟨m4, m5⟩ := List.nodup_cons.1 m2
    have kg0 : k ∈ g0 := by rw [← e]; exact List.mem_append_right _ List.mem_cons_self
    have kR : k ∉ R.flatten := fun q => n3 k kg0 k q rfl
    have k0 := kOk_set hk k false
    have k1 := kOk_set hk k true
    rw [bI_0] at k0
    rw [bI_1] at k1
    refine ⟨?_, h1, ?_, ?_⟩
    ·rw [← Bool.not_eq_true]
     intro hf
     have z := gRest_fcd h hlt hv hl hk hf
     have e0 : gRest us ks (D ++ g0 :: R) = gRest us ks (g0 :: R) := by rw [gRest_app, gRest_skip hD, List.nil_append]
     have y0 : gYes ks g0 = false := by
      unfold gYes
      rw [List.any_eq_false]
      intro j hj
      rw [← e] at hj
      rcases List.mem_append.1 hj with q | q
      ·rw [hP j q]; simp
      ·rw [hg j q]; simp
     have lt2 : ∀ g ∈ g0 :: R, ∀ k ∈ g, k < us.length := fun g hg => hlt g (List.mem_append_right _ hg)
     have p := gB_pos (gRest_ok h ks lt2) (gRest_pos h lt2 (fun x hx => by
      rcases List.mem_cons.1 hx with rfl | hx
      ·intro q
       have : k ∈ gRem ks x := List.mem_filter.2 ⟨kg0, by rw [h1]; rfl⟩
       rw [q] at this
       cases this
      ·intro q
       obtain ⟨j, hj⟩ := List.exists_mem_of_ne_nil _ (hne x (List.mem_cons_of_mem _ hx))
       have : j ∈ gRem ks x := List.mem_filter.2 ⟨hj, by rw [hR j (List.mem_flatten.2 ⟨x, hx, hj⟩)]; rfl⟩
       rw [q] at this
       cases this)) (by
      simp only [gRest]
      rw [y0, if_neg (by simp)]
      simp)
     rw [e0] at z
     omega
    ·refine ih (P ++ [k]) (ks.set k 0) (by rw [← e]; simp) (by simpa using hl) k0 (fun x hx => gYes_mono h1 (hD x hx)) (fun j hj => ?_) (fun j hj => ?_) (fun j hj => ?_)
     ·rcases List.mem_append.1 hj with q | q
      ·rw [List.getElem?_set_ne (show k ≠ j from fun r => m3 j q k List.mem_cons_self r.symm)]
       exact hP j q
      ·rw [List.mem_singleton.1 q, List.getElem?_set_self (List.getElem?_eq_some_iff.1 h1).1]
     ·rw [List.getElem?_set_ne (show k ≠ j from fun r => m4 (by rw [r]; exact hj))]
      exact hg j (List.mem_cons_of_mem _ hj)
     ·rw [List.getElem?_set_ne (show k ≠ j from fun r => kR (by rw [r]; exact hj))]
      exact hR j hj
    ·refine gT_ok h R (D ++ [g0]) (ks.set k 1) (by simpa using hl) k1 (by simpa using hlt) (fun x hx => hne x (List.mem_cons_of_mem _ hx)) (by simpa using hv) (fun x hx => ?_) n2 (fun j hj => ?_)
     ·rcases List.mem_append.1 hx with q | q
      ·exact gYes_mono h1 (hD x q)
      ·rw [List.mem_singleton.1 q]; exact gYes_yes h1 kg0
     ·rw [List.getElem?_set_ne (show k ≠ j from fun r => kR (by rw [r]; exact hj))]
      exact hR j hj
  exact key g0 [] ks rfl hl hk hD (fun k hk => by cases hk) (fun k hk => hu k (List.mem_append_left _ hk)) (fun k hk => hu k (List.mem_append_right _ hk))
def insT (us : List T) (k : Nat) : List Nat → List Nat
 | [] => [k]
 | o :: r => if cA us k * pA us o < cA us o * pA us k ∨ cA us o * pA us k = cA us k * pA us o ∧ k < o then k :: o :: r else o :: insT us k r
def inT (us : List T) (l : List Nat) : List Nat := l.foldl (fun a k => insT us k a) []
def insG (us : List T) (g : List Nat) : List (List Nat) → List (List Nat)
 | [] => [g]
 | o :: r => if (gIo us g).1 * (gIo us o).2.1 < (gIo us o).1 * (gIo us g).2.1 then g :: o :: r else o :: insG us g r
def sG (us : List T) (L : List (List Nat)) : List (List Nat) := L.foldl (fun a g => insG us (inT us g) a) []
theorem insT_perm (us : List T) (k : Nat) : ∀ l : List Nat, (insT us k l).Perm (k :: l)
 | [] => List.Perm.refl _
 | o :: r => by
  simp only [insT]
  split
  ·exact List.Perm.refl _
  ·exact ((insT_perm us k r).cons o).trans (List.Perm.swap k o r)
theorem insG_perm (us : List T) (g : List Nat) : ∀ l : List (List Nat), (insG us g l).Perm (g :: l)
 | [] => List.Perm.refl _
 | o :: r => by
  simp only [insG]
  split
  ·exact List.Perm.refl _
  ·exact ((insG_perm us g r).cons o).trans (List.Perm.swap g o r)
theorem inT_permA (us : List T) : ∀ (l a : List Nat), (l.foldl (fun a k => insT us k a) a).Perm (a ++ l)
 | [], a => by simp
 | k :: r, a => by
  simp only [List.foldl_cons]
  refine (inT_permA us r (insT us k a)).trans ?_
  exact ((insT_perm us k a).append_right r).trans List.perm_middle.symm
theorem inT_perm (us : List T) (l : List Nat) : (inT us l).Perm l := by
 have := inT_permA us l []
 rw [List.nil_append] at this
 exact this
theorem sG_permA (us : List T) : ∀ (l a : List (List Nat)), (l.foldl (fun a g => insG us (inT us g) a) a).Perm (a ++ l.map (inT us))
 | [], a => by simp
 | g :: r, a => by
  simp only [List.foldl_cons, List.map_cons]
  refine (sG_permA us r (insG us (inT us g) a)).trans ?_
  exact ((insG_perm us (inT us g) a).append_right _).trans List.perm_middle.symm
theorem sG_perm (us : List T) (L : List (List Nat)) : (sG us L).Perm (L.map (inT us)) := by
 have := sG_permA us L []
 rw [List.nil_append] at this
 exact this
theorem insT_sorted {us : List T} (h : us.all tOk = true) {k : Nat} (hk : k < us.length) : ∀ {l : List Nat}, (∀ o ∈ l, o < us.length) → l.Pairwise (fun a b => gLe (itT us a) (itT us b) = true) → (insT us k l).Pairwise (fun a b => gLe (itT us a) (itT us b) = true)
 | [], _, _ => List.pairwise_singleton _ _
 | o :: r, hm, hp => by
  obtain ⟨p1, p2⟩ := List.pairwise_cons.1 hp
  have ho := hm o List.mem_cons_self
  have hr : ∀ y ∈ r, y < us.length := fun y hy => hm y (List.mem_cons_of_mem _ hy)
  simp only [insT]
  split
  ·rename_i hc
   have hc' : gLe (itT us k) (itT us o) = true := by
    unfold gLe itT
    rw [decide_eq_true_eq]
    simp only [Int.mul_assoc]
    omega
   refine List.pairwise_cons.2 ⟨fun y hy => ?_, hp⟩
   rcases List.mem_cons.1 hy with rfl | hy
   ·exact hc'
   ·exact gLe_trans (itT_ok h hk) (itT_ok h ho) (itT_ok h (hr y hy)) hc' (p1 y hy)
  ·rename_i hc
   have hc' : gLe (itT us o) (itT us k) = true := by
    unfold gLe itT
    rw [decide_eq_true_eq]
    simp only [Int.mul_assoc]
    omega
   refine List.pairwise_cons.2 ⟨fun y hy => ?_, insT_sorted h hk hr p2⟩
   rcases List.mem_cons.1 ((insT_perm us k r).mem_iff.1 hy) with rfl | hy
   ·exact hc'
   ·exact p1 y hy
theorem inT_sortedA {us : List T} (h : us.all tOk = true) : ∀ (l a : List Nat), (∀ k ∈ l, k < us.length) → (∀ k ∈ a, k < us.length) → a.Pairwise (fun a b => gLe (itT us a) (itT us b) = true) → (l.foldl (fun a k => insT us k a) a).Pairwise (fun a b => gLe (itT us a) (itT us b) = true)
 | [], a, _, _, hp => hp
 | k :: r, a, hl, ha, hp => by
  simp only [List.foldl_cons]
  have hk := hl k List.mem_cons_self
  refine inT_sortedA h r _ (fun j hj => hl j (List.mem_cons_of_mem _ hj)) (fun j hj => ?_) (insT_sorted h hk ha hp)
  rcases List.mem_cons.1 ((insT_perm us k a).mem_iff.1 hj) with rfl | q
  ·exact hk
  ·exact ha j q
theorem inT_cost {us : List T} (h : us.all tOk = true) {l : List Nat} (hl : ∀ k ∈ l, k < us.length) : gIo us (inT us l) = gI us l := by
 have P := inT_perm us l
 have S := inT_sortedA h l [] hl (fun k hk => by cases hk) List.Pairwise.nil
 have e : grC us l = gD ((inT us l).map (itT us)) := gB_sorted (its_ok h hl) (P.map _) (List.Pairwise.map _ (fun _ _ q => q) S)
 unfold gIo gI
 rw [e, grN_perm P, P.length_eq]
theorem insG_sorted {us : List T} {g : List Nat} (hg : iOk (gIo us g)) : ∀ {l : List (List Nat)}, (∀ o ∈ l, iOk (gIo us o)) → l.Pairwise (fun a b => gLe (gIo us a) (gIo us b) = true) → (insG us g l).Pairwise (fun a b => gLe (gIo us a) (gIo us b) = true)
 | [], _, _ => List.pairwise_singleton _ _
 | o :: r, hm, hp => by
  obtain ⟨p1, p2⟩ := List.pairwise_cons.1 hp
  have ho := hm o List.mem_cons_self
  have hr : ∀ y ∈ r, iOk (gIo us y) := fun y hy => hm y (List.mem_cons_of_mem _ hy)
  simp only [insG]
  split
  ·rename_i hc
   have hc' : gLe (gIo us g) (gIo us o) = true := by
    unfold gLe
    rw [decide_eq_true_eq]
    omega
   refine List.pairwise_cons.2 ⟨fun y hy => ?_, hp⟩
   rcases List.mem_cons.1 hy with rfl | hy
   ·exact hc'
   ·exact gLe_trans hg ho (hr y hy) hc' (p1 y hy)
  ·rename_i hc
   have hc' : gLe (gIo us o) (gIo us g) = true := by
    unfold gLe
    rw [decide_eq_true_eq]
    omega
   refine List.pairwise_cons.2 ⟨fun y hy => ?_, insG_sorted hg hr p2⟩
   rcases List.mem_cons.1 ((insG_perm us g r).mem_iff.1 hy) with rfl | hy
   ·exact hc'
   ·exact p1 y hy
theorem sG_sortedA {us : List T} (h : us.all tOk = true) : ∀ (l a : List (List Nat)), (∀ g ∈ l, ∀ k ∈ g, k < us.length) → (∀ g ∈ a, iOk (gIo us g)) → a.Pairwise (fun a b => gLe (gIo us a) (gIo us b) = true) → (l.foldl (fun a g => insG us (inT us g) a) a).Pairwise (fun a b => gLe (gIo us a) (gIo us b) = true)
 | [], a, _, _, hp => hp
 | g :: r, a, hl, ha, hp => by
  simp only [List.foldl_cons]
  have hg : iOk (gIo us (inT us g)) := by rw [inT_cost h (hl g List.mem_cons_self)]; exact gI_ok h (hl g List.mem_cons_self)
  refine sG_sortedA h r _ (fun j hj => hl j (List.mem_cons_of_mem _ hj)) (fun j hj => ?_) (insG_sorted hg ha hp)
  rcases List.mem_cons.1 ((insG_perm us (inT us g) a).mem_iff.1 hj) with rfl | q
  ·exact hg
  ·exact ha j q
/-- what groups cost, one after the other -/
def gA (us : List T) (L : List (List Nat)) : Int := gD ((sG us L).map (gIo us))
theorem gI_map {us : List T} (h : us.all tOk = true) : ∀ {L : List (List Nat)}, (∀ g ∈ L, ∀ k ∈ g, k < us.length) → (L.map (inT us)).map (gIo us) = L.map (gI us)
 | [], _ => rfl
 | g :: r, hL => by
  simp only [List.map_cons]
  rw [inT_cost h (hL g List.mem_cons_self), gI_map h fun x hx => hL x (List.mem_cons_of_mem _ hx)]
theorem gA_gB {us : List T} (h : us.all tOk = true) {L : List (List Nat)} (hL : ∀ g ∈ L, ∀ k ∈ g, k < us.length) : gA us L = gB (L.map (gI us)) := by
 have P := (sG_perm us L).map (gIo us)
 rw [gI_map h hL] at P
 have S := sG_sortedA h L [] hL (fun k hk => by cases hk) List.Pairwise.nil
 exact (gB_sorted (fun x hx => by
  obtain ⟨g, hg, rfl⟩ := List.mem_map.1 hx
  exact gI_ok h (hL g hg)) P (List.Pairwise.map _ (fun _ _ q => q) S)).symm
theorem gIo_M (us : List T) : ∀ L : List (List Nat), gM (L.map (gIo us)) = 6 ^ L.flatten.length
 | [] => rfl
 | g :: r => by
  simp only [List.map_cons, gM, List.flatten_cons, List.length_append]
  rw [gIo_M us r, Int.pow_add]
  rfl
theorem sG_flat (us : List T) (L : List (List Nat)) : (sG us L).flatten.Perm L.flatten := by
 have a := (sG_perm us L).flatten
 refine a.trans ?_
 clear a
 induction L with
 | nil => exact List.Perm.refl _
 | cons g r ih =>
  simp only [List.map_cons, List.flatten_cons]
  exact (inT_perm us g).append ih
theorem sG_gok {us : List T} {m : Nat} {L : List (List Nat)} (G : Gok m L) : Gok m (sG us L) := by
 have F := sG_flat us L
 have mem : ∀ g ∈ sG us L, ∃ x ∈ L, g = inT us x := fun g hg => by
  obtain ⟨x, h1, h2⟩ := List.mem_map.1 ((sG_perm us L).mem_iff.1 hg)
  exact ⟨x, h1, h2.symm⟩
 refine ⟨fun g hg k hk => ?_, F.nodup_iff.2 G.nd, fun k hk => F.mem_iff.2 (G.all k hk), fun g hg e => ?_⟩
 ·obtain ⟨x, h1, rfl⟩ := mem g hg
  exact G.lt x h1 k ((inT_perm us x).mem_iff.1 hk)
 ·obtain ⟨x, h1, rfl⟩ := mem g hg
  have := inT_perm us x
  rw [e] at this
  exact G.ne x h1 this.symm.eq_nil
theorem gV_iff {L : List (List Nat)} {s : Nat} : gV L s = true ↔ ∀ g ∈ L, ∃ k ∈ g, s.testBit k = true := by
 unfold gV
 rw [List.all_eq_true]
 constructor
 ·intro h g hg
  exact List.any_eq_true.1 (h g hg)
 ·intro h g hg
  exact List.any_eq_true.2 (h g hg)
theorem sG_gV (us : List T) (L : List (List Nat)) (s : Nat) : gV (sG us L) s = gV L s := by
 rw [Bool.eq_iff_iff, gV_iff, gV_iff]
 constructor
 ·intro h g hg
  obtain ⟨k, k1, k2⟩ := h (inT us g) ((sG_perm us L).mem_iff.2 (List.mem_map_of_mem hg))
  exact ⟨k, (inT_perm us g).mem_iff.1 k1, k2⟩
 ·intro h g hg
  obtain ⟨x, h1, rfl⟩ := List.mem_map.1 ((sG_perm us L).mem_iff.1 hg)
  obtain ⟨k, k1, k2⟩ := h x h1
  exact ⟨k, (inT_perm us x).mem_iff.2 k1, k2⟩
theorem gok_len {m : Nat} {L : List (List Nat)} (G : Gok m L) : L.flatten.length = m := by
 have : L.flatten.Perm (List.range m) := (List.perm_ext_iff_of_nodup G.nd List.nodup_range).2 fun k => by
  rw [List.mem_range]
  refine ⟨fun hk => ?_, G.all k⟩
  obtain ⟨g, h1, h2⟩ := List.mem_flatten.1 hk
  exact G.lt g h1 k h2
 rw [this.length_eq, List.length_range]
/-- the plan of groups is one, and costs what groups cost -/
theorem gT_plan {us t : List T} (h : us.all tOk = true) {L : List (List Nat)} (G : Gok us.length L) (hv : ∀ s, s < 2 ^ us.length → tv t s = gV L s) :
  okT us.length t (non us.length) (gT (sG us L)) ∧ tA us (non us.length) (gT (sG us L)) = gA us L := by
 have GS := sG_gok (us := us) G
 have un : ∀ k ∈ (sG us L).flatten, (non us.length)[k]? = some (-1) := fun k hk => by
  obtain ⟨g, h1, h2⟩ := List.mem_flatten.1 hk
  have := GS.lt g h1 k h2
  unfold non
  rw [List.getElem?_replicate, if_pos this]
 refine ⟨gT_ok h (sG us L) [] (non us.length) (non_len _) (non_all _) (by simpa using GS.lt) GS.ne (fun s hs => by rw [List.nil_append, sG_gV]; exact hv s hs) (fun g hg => by cases hg) GS.nd un, ?_⟩
 have C := gT_cost (sG us L) (non us.length) (non_len _) GS.nd un
 rw [gIo_M, gok_len GS, wk_non, Int.mul_comm] at C
 exact Int.eq_of_mul_eq_mul_left (by have : (0 : Int) < 6 ^ us.length := Int.pow_pos (by omega); omega) C
end
end Zz
