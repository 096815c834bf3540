/- What the functions answer, as equations: EA. No conditions. -/
import Derived.Test.YtplfgkjggohajabDoorIrzm
import Derived.Test.YtplfgkjggohajabDoorE0
set_option linter.unusedSectionVars false
set_option linter.unusedVariables false
set_option linter.unusedSimpArgs false
namespace Zz
open Go.Lg Md
set_option linter.unusedSimpArgs false
set_option linter.unusedVariables false
attribute [local simp] tm_mv tm_newnil tm_pick tm_bin tm_eqb tm_eqs tm_un tm_len tm_lens tm_chk tm_fld tm_fldv tm_idxa tm_idx tm_load tm_store tm_slice tm_slices tm_make tm_alloc tm_box tm_build tm_app tm_conv tm_ext tm_call tm_calld tm_mkfn tm_mm tm_idxp tm_eqn tm_callg tm_callm tm_bslice0 tm_bslice1 tm_bslice2 tm_bslice cw_nil cw_cons cd_none cd_some ec_nil ec_cons es_nil es_one es_more nn_nil nn_cons ns_nil ns_cons si_nil si_cons sk_t stod_oad stod_own stod_adr stod_dead ml_nil ml_cons nt_nil nt_cons nc_nil' nc_cons sa_mkfn cv_adr cv_i cv_y cv_b cv_w sa_calld nm_def nh_nil nh_cons nxM_some nxM_none sc_st sd_i sd_y sd_b sd_s sd_w sd_q sc_i sc_y sc_b sc_s sc_w sc_q sa_bslice sa_app nc_own nc_nil sa_call sa_alloc sa_build sa_callm rm_nil rm_one rm_gen bq_mul bq_eql ia_mv ia_newnil ia_pick ia_bin ia_eqb ia_eqs ia_un ia_len ia_lens ia_chk ia_fld ia_fldv ia_idxa ia_idx ia_load ia_store ia_slice ia_slices ia_make ia_alloc ia_box ia_build ia_bslice ia_app ia_b2i ia_i2b ia_i2i ia_same ia_b2s ia_s2b ia_ext ia_mm ia_idxp ia_calld ia_mkfn ia_i2r ia_r2s ia_call pt_nil pt_cons mi_nil mi_cons md_bslice md_mv md_newnil md_pick md_bin md_eqb md_un md_len md_lens md_fld md_fldv md_idxa md_idx md_load md_store md_slice md_slices md_make md_alloc md_box md_build md_app md_conv md_ext md_call md_calld md_callg md_mkfn md_mm md_idxp md_eqn md_eqs md_chk tg_bslice tg_mv tg_newnil tg_pick tg_bin tg_eqb tg_un tg_len tg_lens tg_fld tg_fldv tg_idxa tg_idx tg_load tg_store tg_slice tg_slices tg_make tg_alloc tg_box tg_build tg_app tg_conv tg_ext tg_call tg_calld tg_callg tg_mkfn tg_mm tg_idxp tg_eqn tg_eqs tg_chk rp_eq ro_eq ifP_t ifP_f np_def ng1_nil ng2_nil ng_gate ng_gen tgA_t tgA_0 tgA_1 tgA_2 aC_nil aC_c aC_t rS_def nb_def tv_b2i tv_i2b tv_i2i tv_s2b tv_b2s tv_same tv_i2r tv_r2s tv_i2q tv_q2i tv_q2q nxZ_some nxZ_none rz_nil rz_gen nxP_some nxP_none rq_nil rq_gen rq_gate nxR_some nxR_none ru_nil ru_gen ru_gate pl_none pl_some gt_nil gt_t gt_c di_some di_none an_nil an_cons nxG_some nxG_none rg_nil rg_gen rg_gate oldO_some oa_nil oa_i oa_y oa_b oa_s oa_st oa_sl oa_own oa_oad oa_nl al_nil al_cons al_i al_y al_b al_s al_st al_sl nxF_some nxF_none rf_nil rf_gen rf_gate hk_newnil hk_make hk_alloc hk_box hk_build hk_bslice hk_call hk_store hk_app hk_appn em_cel mm_cel ok_cel ov_cel so_cel il_cel oi_cel oj_cel ol_cel nm_cel hk_appc ef_bslice5 ef_app_cel ks_shut shu_own shc_none shc_cel cl_nil cl_cons ai_nil ai_cons il_i il_y il_b il_s il_st il_sl il_own il_adr il_oad il_ref il_fr il_tup il_nil il_np il_und il_dead ol_adr ol_b ol_dead ol_e ol_fn ol_fr ol_i ol_nil ol_np ol_oad ol_own ol_q ol_r ol_ref ol_s ol_sl ol_st ol_tup ol_und ol_w ol_y oj_e oj_i oj_y oj_b oj_s oj_st oj_sl oj_own oj_adr oj_oad oj_ref oj_fr oj_tup oj_nil oj_np oj_und oj_dead oj_w oj_q oj_r oj_fn oi_e oi_i oi_y oi_b oi_s oi_st oi_sl oi_own oi_adr oi_oad oi_ref oi_fr oi_tup oi_nil oi_np oi_und oi_dead as_nil as_cons ao_nil ao_cons av_i av_y av_b av_s av_st av_sl av_own av_adr av_oad av_ref av_fr av_tup av_nil av_np av_und av_dead pro_cons ghK_some ks_promote ks_freeze frz_own ks_rename ren_own ks_cell cel_own dropO adoptP newP wholeP cutP allOldL ex_skip ex_ret ex_exit ks_region ks_seq ks_cut ks_cond ks_block seqK_n seqK_e seqK_r regK_some condK_t condK_f blkK_n blkK_r blkK_e endK_n endK_r rr_false rr_true rd_free mo_nil mo_cons drK_some drK_none nxW_some nxW_none rw_nil rw_gen rw_gate ak_newnil ak_make ak_alloc ak_box ak_build ak_bslice ak_call ak_store ak_app iw_mm iw_eqn iw_idxp ef_callg cgK_some gv_e gv_own gv_i gv_sl gv_st gv_b gv_nil gvK_some gvO_some iw_callg ia_callg ak_callg hk_callg is_mv is_newnil is_pick is_bin is_eqb is_eqs is_un is_len is_lens is_chk is_fld is_fldv is_idxa is_idx is_load is_slice is_slices is_make is_alloc is_box is_build is_bslice is_app is_conv is_ext is_call is_calld is_callg is_mkfn is_mm is_idxp is_eqn is_store rt_nil rt_gen rt_gate nxT_some nxT_none ef_eqn_nil ef_eqn_sl ef_eqn_own ia_eqn ef_mmx ef_mmn ef_idxp nxD_some nxD_none ov_i ov_y ov_b ov_s ov_st ov_sl ov_own ov_oad ov_adr ov_nil ov_np ov_und ov_dead ov_tup oldN_some oldN_nil oldN_none so_none so_tup DV.noM so_i so_y so_b so_s so_st so_sl so_adr so_nil so_np so_und so_dead anyM_nil anyM_t anyM_c so_own so_oad rd_nil rd_gen rd_mv rd_gate iw_mv iw_newnil iw_pick iw_bin iw_eqb iw_eqs iw_un iw_len iw_lens iw_chk iw_fld iw_fldv iw_idxa iw_idx iw_load iw_store iw_slice iw_slices iw_make iw_alloc iw_box iw_build iw_bslice iw_app iw_b2i iw_i2b iw_i2i iw_same iw_b2s iw_s2b iw_ext iw_call nm_i nm_y nm_b nm_s nm_st nm_sl nm_own nm_oad nm_adr nm_nil nm_np nm_und nm_dead nm_tup rl_nil rl_gate rl_mv rl_gen opv_t opv_c nx_some nx_none gate_tt gate_tf gate_ft gate_ff gate_u fr_ap em_nil em_i em_y em_b em_s em_st em_sl em_own em_adr em_oad em_ref em_nl em_np em_und em_dead em_tup0 em_tup_i em_tup_b em_tup_s em_tup_sl em_tup_st em_tup_np em_tup_own em_tup_oad mm_i mm_y mm_b mm_s mm_st mm_sl mm_own mm_oad mm_adr mm_nil mm_np mm_und mm_dead ef_mv ef_newnil ef_pickt ef_pickf ef_bin ef_eqb ef_eqs ef_un ef_lens ef_len_sl ef_len_own ef_len_nil ef_chk_adr ef_chk_oad ef_fld_adr ef_fld_oad ef_fldv idxR_some ef_idxa_sl ef_idxa_own ef_idx ef_load_adr_st ef_load_adr_i ef_load_adr_y ef_load_adr_b ef_load_adr_s ef_load_adr_sl atN_nil atN_zero atN_succ ef_load_oad ef_store ef_slice ef_slices ef_make ef_alloc ef_box ef_build ef_bslice ef_app_own ef_app_nil ef_b2i ef_i2b ef_i2i ef_same ef_ext ret1 ret2_some calL_some ef_call retC_i retC_y retC_b retC_s retC_st retC_sl retC_np retC_fr retC_ref retC_tup rk_nil rk_i rk_y rk_b rk_s rk_st rk_sl rk_own rk_oad rk_nl ok_nil ok_i ok_y ok_b ok_s ok_st ok_sl ok_own ok_oad ok_nl lo_nil lo_i lo_y lo_b lo_s lo_st lo_sl lo_own lo_oad lo_nl pr_nil pr_i pr_y pr_b pr_s pr_st pr_sl pr_own pr_nl pr_oad nr_i nr_y nr_b nr_s nr_st nr_sl nr_fr nr_np nr_tup ng_i ng_b ng_s ng_fr ng_nil resV effP_eff binD bi_add bi_sub bi_mul bi_quo bi_rem bi_eql bi_neq bi_lss bi_leq bi_gtr bi_geq bi_shl bi_shr bi_and bi_or bi_xor bi_andNot binY binS unD look put putD LS.get LS.drop killE sweep lookO putO dropO enter leave giveBackL giveBack outs lendArgs lendArg newOuts takeIn takeInL lendL DV.lend adoptL DV.adopt elems apartKs part DV.cells unpart settle settleL over mkId szId fillP fillE tk_e2 tk_i tk_y lt_e2 lt_i lt_y lend_rep al_e2 al_is al_ys al_rep al_app lend_app adopt_app new_app lend_e2 lend_i lend_y adopt_e2 adopt_i adopt_y new_e2 new_i allNewL DV.allNew bounds sliceD sliceS em_w em_q em_r em_fn em_tup_w em_tup_q em_tup_r mm_w mm_q mm_r mm_fn ef_load_adr_w ef_load_adr_q ef_load_adr_r retC_w retC_q retC_r rk_w rk_q rk_r rk_fn ok_w ok_q ok_r ok_fn lo_w lo_q lo_r lo_fn pr_w pr_q pr_r pr_fn nr_w nr_q nr_r ng_w ng_q ng_r oa_w oa_q oa_r oa_fn al_w al_q al_r al_fn ov_w ov_q ov_r ov_fn so_w so_q so_r so_fn il_w il_q il_r il_fn oi_w oi_q oi_r oi_fn av_w av_q av_r av_fn nm_w nm_q nm_r nm_fn ef_i2r ef_r2s ef_b2s bs_some ys_nil ys_cons ys_map ef_mkfn ef_mkbd ef_idxp_adr ef_idxp_q ef_calld_nil ef_calld_adr ef_calld_bd DV.capB capsOk DV.cell List.all_cons List.all_nil rk_own_t lo_own_t lk_f lk_t pr_own_t mutB ak_calld hk_calld iw_calld iw_mkfn iw_i2r iw_r2s bw_and bw_or bw_xor bw_andNot bw_eql bw_neq sw_shl sw_shr sq_shl gEnv_nil rk_adr ok_adr lo_adr pr_adr oa_adr capL capArg DV.cap ak_mkfn hk_mkfn hk_mkbd ef_callm gf_ap ga_nil ga_cons tgv_own gk_e gk_giv gk_i gk_y gk_b gk_s gk_w gk_q gk_r gk_fn gk_st gk_sl gk_own gk_oad gk_adr gk_nl gk_np rk_giv ok_giv lo_giv pr_giv oa_giv iw_callm hk_callm ak_callm is_callm ia_callm tg_callm md_callm ef_i2q ef_q2i ef_q2q iw_i2q iw_q2i iw_q2q ia_i2q ia_q2i ia_q2q bq_and bq_add bq_shr sq_shr tgv_nil gk_ref rk_ref ok_ref lo_ref pr_ref oa_ref retC_fn nr_fn ef_load_adr_fn ks_close cls_oad
attribute [local congr] nxM_congr ifP_congr nxP_congr nxZ_congr nxR_congr nxT_congr nxG_congr nxF_congr ghK_congr gate_congr nx_congr nxD_congr runL_congr runD_congr eff_congr calL_congr ret2_congr seqK_congr regK_congr condK_congr endK_congr drK_congr nxW_congr
attribute [local simp ↓] nxM_some rm_nil rm_one rm_gen nxT_some rt_nil rt_gen rt_gate nxZ_some rz_nil rz_gen nxP_some rq_nil rq_gen rq_gate nxR_some ru_nil ru_gen ru_gate nxG_some rg_nil rg_gen rg_gate nxF_some rf_nil rf_gen rf_gate ks_promote ks_freeze frz_own ks_rename ks_cell ghK_some gate_tt gate_tf gate_ft gate_ff gate_u nx_some nxD_some rl_nil rl_mv rl_gen rl_gate rd_nil rd_mv rd_gen rd_gate rd_free rr_false rr_true drK_some drK_none nxW_some rw_nil rw_gen rw_gate ks_region ks_seq ks_cut ks_cond ks_block seqK_n seqK_e seqK_r regK_some condK_t condK_f blkK_n blkK_r endK_n endK_r calL_some ret2_some opv_t opv_c
section
theorem c_impl_isWithin (a b c : Int) : call lf n_impl_isWithin [.i a,.i b,.i c] = some (.b (decide (b ≤ a ∧ a ≤ c)),[]) := by
 rw [call_k lf n_impl_isWithin _ (F := F_impl_isWithin) rfl rfl]
 by_cases h : b ≤ a <;> simp [F_impl_isWithin,h]
theorem c_spec_l1In (a b c : Int) : call lf n_spec_l1In [.i a,.i b,.i c] = some (.b (decide (b ≤ a ∧ a ≤ c)),[]) := by
 rw [call_k lf n_spec_l1In _ (F := F_spec_l1In) rfl rfl]
 by_cases h : b ≤ a <;> simp [F_spec_l1In,h]
theorem c_impl_manyOk (a : Int) : call lf n_impl_manyOk [.i a] = some (.b (nOk a),[]) := by
 rw [call_k lf n_impl_manyOk _ (F := F_impl_manyOk) rfl rfl]
 simp [F_impl_manyOk,c_impl_isWithin,nOk]

theorem l_impl_TestsOk (n : Int) (hb : n < 1099511627776) (es : List DV) (rest : List T) : ∀ k : Int,0 ≤ k → k + (rest.map e2).length = n → es.drop k.toNat = rest.map e2 →
  ex lf F_impl_TestsOk_W0 ⟨[(9,.sl 0 es),(10,.i n),(11,.i k)],[]⟩ =
  if rest.all tOk then some (.exit 0,⟨[(9,.sl 0 es),(10,.i n),(11,.i n)],[]⟩) else some (.ret,⟨[(2,.b false)],[]⟩) := by
 induction rest with
 | nil =>
  intro k h0 hn hd
  rw [w_impl_TestsOk_0]
  have hk : k = n := by simpa using hn
  simp [F_impl_TestsOk_L0,hk]
 | cons t rest ih =>
  intro k h0 hn hd
  obtain ⟨q1,q2,q3,q4,q5,q6⟩ := stp h0 hn hb hd
  have ih := ih (k + 1) q4 q5 q6
  simp only [e2] at q2
  rw [w_impl_TestsOk_0]
  have xt := tOk_def t
  cases x1 : decide (1 ≤ t.1 ∧ t.1 ≤ 9) <;> cases x2 : decide (1 ≤ t.2 ∧ t.2 ≤ 5) <;> rw [x1,x2] at xt <;> simp [F_impl_TestsOk_L0,q1,q2,q3,c_impl_isWithin,ih,xt,x1,x2,-List.all_eq_true]
theorem c_impl_TestsOk (ts : List T) (hb : (ts.length : Int) < 1099511627776) : call lf n_impl_TestsOk [.sl 0 (ts.map e2)] = some (.b (tsOk ts),[]) := by
 rw [call_k lf n_impl_TestsOk _ (F := F_impl_TestsOk) rfl rfl]
 have L := l_impl_TestsOk ts.length hb (ts.map e2) ts 0 (by omega) (by simp) (by simp)
 cases h1 : nOk ts.length <;> cases h2 : ts.all tOk <;> simp [F_impl_TestsOk,c_impl_manyOk,L,h1,h2,tsOk]

theorem l_spec_TestsOk (n : Int) (hb : n < 1099511627776) (es : List DV) (hE : (es.length : Int) = n) (rest : List T) : ∀ k : Int,0 ≤ k → k + (rest.map e2).length = n → es.drop k.toNat = rest.map e2 →
  ex lf F_spec_TestsOk_W0 ⟨[(0,.sl 0 es),(3,.i k)],[]⟩ =
  if rest.all tOk then some (.exit 0,⟨[(0,.sl 0 es),(3,.i n)],[]⟩) else some (.ret,⟨[(2,.b false)],[]⟩) := by
 induction rest with
 | nil =>
  intro k h0 hn hd
  rw [w_spec_TestsOk_0]
  have hk : k = n := by simpa using hn
  simp [F_spec_TestsOk_L0,hk,hE]
 | cons t rest ih =>
  intro k h0 hn hd
  obtain ⟨q1,q2,q3,q4,q5,q6⟩ := stp h0 hn hb hd
  have ih := ih (k + 1) q4 q5 q6
  simp only [e2] at q2
  rw [w_spec_TestsOk_0]
  have xt := tOk_def t
  cases x1 : decide (1 ≤ t.1 ∧ t.1 ≤ 9) <;> cases x2 : decide (1 ≤ t.2 ∧ t.2 ≤ 5) <;> rw [x1,x2] at xt <;> simp [F_spec_TestsOk_L0,q1,q2,q3,hE,c_spec_l1In,ih,xt,x1,x2,-List.all_eq_true]
theorem c_spec_TestsOk (ts : List T) (hb : (ts.length : Int) < 1099511627776) : call lf n_spec_TestsOk [.sl 0 (ts.map e2)] = some (.b (tsOk ts),[]) := by
 rw [call_k lf n_spec_TestsOk _ (F := F_spec_TestsOk) rfl rfl]
 have L := l_spec_TestsOk ts.length hb (ts.map e2) (by simp) ts 0 (by omega) (by simp) (by simp)
 cases h2 : ts.all tOk <;> simp [F_spec_TestsOk,c_spec_l1In,L,h2,tsOk,nOk]

theorem c_impl_statesOf (a : Int) (h0 : 0 ≤ a) (h5 : a ≤ 40) : call lf n_impl_statesOf [.i a] = some (.i (2 ^ a.toNat),[]) := by
 rw [call_k lf n_impl_statesOf _ (F := F_impl_statesOf) rfl rfl]
 have h1 : ¬ a < 0 := by omega
 simp [F_impl_statesOf,h1,shl1 h0 h5]
theorem nOk_iff {a : Int} : nOk a = true ↔ 1 ≤ a ∧ a ≤ 5 := by simp [nOk]
theorem c_impl_StateOk (a b : Int) : call lf n_impl_StateOk [.i a,.i b] = some (.b (stOk a b),[]) := by
 rw [call_k lf n_impl_StateOk _ (F := F_impl_StateOk) rfl rfl]
 cases h : nOk a with
 | true =>
  have h' := nOk_iff.1 h
  have p := pow2_le (k := a) (by omega) (by omega)
  have w := wr_id (n := 2 ^ a.toNat - 1) (by omega) (by omega)
  have e : decide (0 ≤ b ∧ b ≤ 2 ^ a.toNat - 1) = decide (0 ≤ b ∧ b < 2 ^ a.toNat) := decide_eq_decide.2 (by omega)
  simp [F_impl_StateOk,c_impl_manyOk,c_impl_isWithin,h,stOk,c_impl_statesOf a (by omega) (by omega),w,e]
 | false => simp [F_impl_StateOk,c_impl_manyOk,c_impl_isWithin,h,stOk]
theorem c_impl_outcomeIn (s k : Int) (h0 : 0 ≤ k) (h5 : k ≤ 40) : call lf n_impl_outcomeIn [.i s,.i k] = some (.i (s / 2 ^ k.toNat % 2),[]) := by
 rw [call_k lf n_impl_outcomeIn _ (F := F_impl_outcomeIn) rfl rfl]
 have h1 : ¬ k < 0 := by omega
 simp [F_impl_outcomeIn,h1,shr1 (a := s) h0 (show k ≤ 60 by omega),bit_and]

theorem l_impl_WeightOf (s : Int) (n : Int) (hb : n ≤ 5) (es : List DV) (rest : List T) (hr : rest.all tOk = true) : ∀ (k a : Int),0 ≤ k → k + (rest.map e2).length = n → es.drop k.toNat = rest.map e2 → 1 ≤ a → a ≤ 6 ^ k.toNat →
  ex lf F_impl_WeightOf_W0 ⟨[(1,.i s),(5,.i a),(18,.sl 0 es),(19,.i n),(20,.i k)],[]⟩ = some (.exit 0,⟨[(1,.i s),(5,.i (a * wt rest (s / 2 ^ k.toNat))),(18,.sl 0 es),(19,.i n),(20,.i n)],[]⟩) := by
 induction rest with
 | nil =>
  intro k a h0 hn hd _ _
  rw [w_impl_WeightOf_0]
  have hk : k = n := by simpa using hn
  simp [F_impl_WeightOf_L0,hk,wt]
 | cons t rest ih =>
  intro k a h0 hn hd ha1 ha2
  simp only [List.all_cons,Bool.and_eq_true] at hr
  obtain ⟨q1,q2,q3,q4,q5,q6⟩ := stp h0 hn (by omega) hd
  have tk := tOk_iff.1 hr.1
  simp only [e2] at q2
  have oc := c_impl_outcomeIn s k h0 (by omega)
  have w6 : wr (6 - t.2) = 6 - t.2 := wr_id (by omega) (by omega)
  rw [w_impl_WeightOf_0]
  by_cases hx : s / 2 ^ k.toNat % 2 = 1
  ·obtain ⟨m1,m2,m3⟩ := mulw (c := t.2) ha1 ha2 (by omega) (by omega) h0 (by omega)
   have ih := ih hr.2 (k + 1) (a * t.2) q4 q5 q6 m2 m3
   rw [div_pow_succ s h0] at ih
   simp [F_impl_WeightOf_L0,q1,q2,q3,oc,hx,m1,ih,wt,Int.mul_assoc]
  ·obtain ⟨m1,m2,m3⟩ := mulw (c := 6 - t.2) ha1 ha2 (by omega) (by omega) h0 (by omega)
   have ih := ih hr.2 (k + 1) (a * (6 - t.2)) q4 q5 q6 m2 m3
   rw [div_pow_succ s h0] at ih
   have hx' : ((s / 2 ^ k.toNat % 2) == 1) = false := beq_eq_false_iff_ne.2 hx
   simp [F_impl_WeightOf_L0,q1,q2,q3,oc,hx,hx',m1,w6,ih,wt,Int.mul_assoc]
theorem tsOk_iff {ts : List T} : tsOk ts = true ↔ (1 ≤ (ts.length : Int) ∧ (ts.length : Int) ≤ 5) ∧ ts.all tOk = true := by
 rw [tsOk,Bool.and_eq_true,nOk_iff]
theorem c_impl_WeightOf (ts : List T) (s : Int) (hb : (ts.length : Int) < 1099511627776) : call lf n_impl_WeightOf [.sl 0 (ts.map e2),.i s] = some (.i (wtOf ts s),[]) := by
 rw [call_k lf n_impl_WeightOf _ (F := F_impl_WeightOf) rfl rfl]
 have C := c_impl_TestsOk ts hb
 cases h1 : tsOk ts with
 | false => simp [F_impl_WeightOf,C,h1,wtOf]
 | true =>
  have h1' := tsOk_iff.1 h1
  cases h2 : stOk ts.length s with
  | false => simp [F_impl_WeightOf,C,c_impl_StateOk,h1,h2,wtOf]
  | true =>
   have L := l_impl_WeightOf s ts.length (by omega) (ts.map e2) ts h1'.2 0 1 (by omega) (by simp) (by simp) (by omega) (by simp)
   simp at L
   simp [F_impl_WeightOf,C,c_impl_StateOk,h1,h2,wtOf,L]

theorem stOk_iff {n s : Int} : stOk n s = true ↔ (1 ≤ n ∧ n ≤ 5) ∧ 0 ≤ s ∧ s < 2 ^ n.toNat := by
 rw [stOk,Bool.and_eq_true,nOk_iff,decide_eq_true_eq]
theorem ksOk_iff {m : Int} {ks : List Int} : ksOk m ks = true ↔ (1 ≤ m ∧ m ≤ 5) ∧ (ks.length : Int) = m ∧ ks.all kOk = true := by
 rw [ksOk,Bool.and_eq_true,Bool.and_eq_true,nOk_iff,decide_eq_true_eq,and_assoc]
end
section
theorem sumTo_nonneg {f : Nat → Int} {B : Int} (hB : 0 ≤ B) (n : Nat) : (∀ k,k < n → 0 ≤ f k ∧ f k ≤ B) → 0 ≤ sumTo f n ∧ sumTo f n ≤ B * n := by
 induction n with
 | zero => intro _; simp [sumTo]
 | succ n ih =>
  intro h
  have a := ih (fun k hk => h k (by omega))
  have b := h n (by omega)
  simp only [sumTo]
  rw [show ((n + 1 : Nat) : Int) = n + 1 by omega,Int.mul_add]
  omega
theorem p2 {ts : List T} (h : tsOk ts = true) : 1 ≤ (2 : Nat) ^ ts.length ∧ (2 : Nat) ^ ts.length ≤ 32 ∧ ((2 ^ ts.length : Nat) : Int) = 2 ^ ts.length := by
 have h' := tsOk_iff.1 h
 have a : (2 : Nat) ^ ts.length ≤ 2 ^ 5 := Nat.pow_le_pow_right (by omega) (by omega)
 exact ⟨Nat.pow_pos (by omega),by omega,by simp⟩
theorem wtOf_of {ts : List T} (h : tsOk ts = true) {s : Int} (h0 : 0 ≤ s) (h1 : s < 2 ^ ts.length) : wtOf ts s = wt ts s := by
 have e : stOk ts.length s = true := by
  rw [stOk_iff]
  exact ⟨(tsOk_iff.1 h).1,h0,by simpa using h1⟩
 simp [wtOf,h,e]
end
section
/-- a mark read with p parts before it -/
def mkS (m p : Int) (t : T) : Option Int :=
 if t.1 = 0 then (if 0 ≤ t.2 ∧ t.2 < m then some (p + 1) else none)
 else if t.1 = 1 then (if t.2 = 0 ∧ 1 ≤ p then some p else none)
 else if t.1 = 2 ∨ t.1 = 3 then (if t.2 = 0 ∧ 2 ≤ p then some (p - 1) else none)
 else none
def runM (m : Int) : Int → List T → Option Int
 | p,[] => some p
 | p,t :: r => match mkS m p t with
  | some q => runM m q r
  | none => none
def tmOk (m : Int) (ts : List T) : Bool := nOk m && decide ((ts.length : Int) ≤ 13) && runM m 0 ts == some 1
theorem c_impl_partsTaken (k : Int) : call lf n_impl_partsTaken [.i k] = some (.i (if k = 0 then 0 else if k = 1 then 1 else 2),[]) := by
 rw [call_k lf n_impl_partsTaken _ (F := F_impl_partsTaken) rfl rfl]
 by_cases h0 : k = 0
 ·simp [F_impl_partsTaken,h0]
 ·have h0' : (k == 0) = false := beq_eq_false_iff_ne.2 h0
  by_cases h1 : k = 1
  ·simp [F_impl_partsTaken,h1]
  ·have h1' : (k == 1) = false := beq_eq_false_iff_ne.2 h1
   simp [F_impl_partsTaken,h0,h1,h0',h1']
theorem c_impl_markOk (m k a : Int) (hm : nOk m = true) : call lf n_impl_markOk [.i m,.st [.i k,.i a]] = some (.b (if k = 0 then decide (0 ≤ a ∧ a < m) else decide ((1 ≤ k ∧ k ≤ 3) ∧ a = 0)),[]) := by
 rw [call_k lf n_impl_markOk _ (F := F_impl_markOk) rfl rfl]
 have hm' := nOk_iff.1 hm
 have w : wr (m - 1) = m - 1 := wr_id (by omega) (by omega)
 by_cases h0 : k = 0
 ·have e : decide (0 ≤ a ∧ a ≤ m - 1) = decide (0 ≤ a ∧ a < m) := decide_eq_decide.2 (by omega)
  simp [F_impl_markOk,h0,w,c_impl_isWithin,e]
 ·have h0' : (k == 0) = false := beq_eq_false_iff_ne.2 h0
  by_cases h1 : 1 ≤ k ∧ k ≤ 3
  ·have d1 : decide (1 ≤ k ∧ k ≤ 3) = true := decide_eq_true h1
   have e : decide ((1 ≤ k ∧ k ≤ 3) ∧ a = 0) = (a == 0) := by
    by_cases ha : a = 0
    ·simp [ha,h1]
    ·have ha' : (a == 0) = false := beq_eq_false_iff_ne.2 ha
     rw [ha']; simp [ha]
   simp [F_impl_markOk,h0,h0',c_impl_isWithin,d1,e]
  ·have d1 : decide (1 ≤ k ∧ k ≤ 3) = false := decide_eq_false h1
   have e : decide ((1 ≤ k ∧ k ≤ 3) ∧ a = 0) = false := decide_eq_false (fun h => h1 h.1)
   simp [F_impl_markOk,h0,h0',c_impl_isWithin,d1,e]
set_option maxHeartbeats 4000000 in
theorem l_impl_TermOk (m : Int) (hm : nOk m = true) (n : Int) (hb : n < 1099511627776) (es : List DV) (rest : List T) : ∀ k p : Int,0 ≤ k → k + (rest.map e2).length = n → es.drop k.toNat = rest.map e2 → 0 ≤ p → p ≤ k →
  ex lf F_impl_TermOk_W0 ⟨[(0,.i m),(5,.i p),(18,.sl 0 es),(19,.i n),(20,.i k)],[]⟩ =
  match runM m p rest with
  | some q => some (.exit 0,⟨[(0,.i m),(5,.i q),(18,.sl 0 es),(19,.i n),(20,.i n)],[]⟩)
  | none => some (.ret,⟨[(4,.b false)],[]⟩) := by
 induction rest with
 | nil =>
  intro k p h0 hn hd _ _
  rw [w_impl_TermOk_0]
  have hk : k = n := by simpa using hn
  simp [F_impl_TermOk_L0,hk,runM]
 | cons t rest ih =>
  intro k p h0 hn hd hp hpk
  obtain ⟨q1,q2,q3,q4,q5,q6⟩ := stp h0 hn hb hd
  have mk := c_impl_markOk m t.1 t.2 hm
  simp only [e2] at q2
  have nb : k ≤ 1099511627776 := by omega
  have w0 : wr (1 : Int) = 1 := wr_id (by omega) (by omega)
  have w1 : wr (p + 1) = p + 1 := wr_id (by omega) (by omega)
  have w2 : wr p = p := wr_id (by omega) (by omega)
  have w3 : wr (-1 : Int) = -1 := wr_id (by omega) (by omega)
  have w4 : wr (p + -1) = p + -1 := wr_id (by omega) (by omega)
  have w5 : wr (0 : Int) = 0 := wr_id (by omega) (by omega)
  obtain ⟨kd,a⟩ := t
  simp only at mk q2
  rw [w_impl_TermOk_0,runM]
  have iha := ih (k + 1) (p + 1) q4 q5 q6 (by omega) (by omega)
  have ihb := ih (k + 1) p q4 q5 q6 (by omega) (by omega)
  by_cases k0 : kd = 0
  ·subst k0
   by_cases ha : 0 ≤ a ∧ a < m
   ·have e : mkS m p (0,a) = some (p + 1) := by simp [mkS,ha]
    have d : decide (0 ≤ a ∧ a < m) = true := decide_eq_true ha
    simp only [if_true,d] at mk
    have np : ¬ p < 0 := by omega
    simp [F_impl_TermOk_L0,q1,q2,q3,mk,c_impl_partsTaken,np,w0,w1,iha,e]
   ·have e : mkS m p (0,a) = none := by simp only [mkS,if_true,if_neg ha]
    have d : decide (0 ≤ a ∧ a < m) = false := decide_eq_false ha
    simp only [if_true,d] at mk
    simp [F_impl_TermOk_L0,q1,q2,q3,mk,c_impl_partsTaken,e]
  ·rw [if_neg k0] at mk
   by_cases k1 : kd = 1
   ·subst k1
    by_cases ha : a = 0
    ·subst ha
     by_cases hp1 : 1 ≤ p
     ·have e : mkS m p (1,0) = some p := by simp [mkS,hp1]
      have np : ¬ p < 1 := by omega
      simp at mk
      simp [F_impl_TermOk_L0,q1,q2,q3,mk,c_impl_partsTaken,np,w2,w5,ihb,e]
     ·have e : mkS m p (1,0) = none := by simp [mkS,hp1]
      have np : p < 1 := by omega
      simp at mk
      simp [F_impl_TermOk_L0,q1,q2,q3,mk,c_impl_partsTaken,np,e]
    ·have e : mkS m p (1,a) = none := by simp [mkS,ha]
     have d : decide ((1 ≤ (1 : Int) ∧ (1 : Int) ≤ 3) ∧ a = 0) = false := decide_eq_false (fun h => ha h.2)
     rw [d] at mk
     simp [F_impl_TermOk_L0,q1,q2,q3,mk,c_impl_partsTaken,e]
   ·by_cases k2 : kd = 2 ∨ kd = 3
    ·by_cases ha : a = 0
     ·subst ha
      have d : decide ((1 ≤ kd ∧ kd ≤ 3) ∧ (0 : Int) = 0) = true := decide_eq_true ⟨by omega,rfl⟩
      rw [d] at mk
      by_cases hp1 : 2 ≤ p
      ·have e : mkS m p (kd,0) = some (p - 1) := by simp [mkS,k0,k1,k2,hp1]
       have np : ¬ p < 2 := by omega
       have ihc := ih (k + 1) (p - 1) q4 q5 q6 (by omega) (by omega)
       simp only [Int.sub_eq_add_neg] at ihc e
       simp [F_impl_TermOk_L0,q1,q2,q3,mk,c_impl_partsTaken,k0,k1,np,w3,w4,ihc,e]
      ·have e : mkS m p (kd,0) = none := by simp [mkS,k0,k1,k2,hp1]
       have np : p < 2 := by omega
       simp [F_impl_TermOk_L0,q1,q2,q3,mk,c_impl_partsTaken,k0,k1,np,e]
     ·have e : mkS m p (kd,a) = none := by simp [mkS,k0,k1,k2,ha]
      have d : decide ((1 ≤ kd ∧ kd ≤ 3) ∧ a = 0) = false := decide_eq_false (fun h => ha h.2)
      rw [d] at mk
      simp [F_impl_TermOk_L0,q1,q2,q3,mk,c_impl_partsTaken,k0,k1,e]
    ·have e : mkS m p (kd,a) = none := by simp [mkS,k0,k1,k2]
     have d : decide ((1 ≤ kd ∧ kd ≤ 3) ∧ a = 0) = false := decide_eq_false (fun h => by omega)
     rw [d] at mk
     simp [F_impl_TermOk_L0,q1,q2,q3,mk,c_impl_partsTaken,k0,k1,e]
theorem c_impl_TermOk (m : Int) (ts : List T) (hb : (ts.length : Int) < 1099511627776) : call lf n_impl_TermOk [.i m,.sl 0 (ts.map e2)] = some (.b (tmOk m ts),[]) := by
 rw [call_k lf n_impl_TermOk _ (F := F_impl_TermOk) rfl rfl]
 cases h1 : nOk m with
 | false => simp [F_impl_TermOk,c_impl_manyOk,h1,tmOk]
 | true =>
  by_cases h2 : 1 ≤ (ts.length : Int) ∧ (ts.length : Int) ≤ 13
  ·have d : decide (1 ≤ (ts.length : Int) ∧ (ts.length : Int) ≤ 13) = true := decide_eq_true h2
   have L := l_impl_TermOk m h1 ts.length hb (ts.map e2) ts 0 0 (by omega) (by simp) (by simp) (by omega) (by omega)
   have d2 : decide ((ts.length : Int) ≤ 13) = true := decide_eq_true h2.2
   cases hr : runM m 0 ts with
   | none =>
    rw [hr] at L
    simp [F_impl_TermOk,c_impl_manyOk,c_impl_isWithin,h1,d,L,tmOk,hr]
   | some q =>
    rw [hr] at L
    have e : tmOk m ts = (q == 1) := by
     rw [tmOk,h1,d2,hr]
     cases hq : q == 1 <;> simp_all
    simp [F_impl_TermOk,c_impl_manyOk,c_impl_isWithin,h1,d,L,e]
  ·have d : decide (1 ≤ (ts.length : Int) ∧ (ts.length : Int) ≤ 13) = false := decide_eq_false h2
   have e : tmOk m ts = false := by
    by_cases h3 : (ts.length : Int) ≤ 13
    ·have : ts = [] := List.eq_nil_of_length_eq_zero (by omega)
     subst this
     simp [tmOk,runM]
    ·simp only [tmOk,decide_eq_false h3,Bool.and_false,Bool.false_and]
   simp [F_impl_TermOk,c_impl_manyOk,c_impl_isWithin,h1,d,e]
theorem tmOk_iff {m : Int} {ts : List T} : tmOk m ts = true ↔ (1 ≤ m ∧ m ≤ 5) ∧ (ts.length : Int) ≤ 13 ∧ runM m 0 ts = some 1 := by
 rw [tmOk,Bool.and_eq_true,Bool.and_eq_true,nOk_iff,decide_eq_true_eq,beq_iff_eq,and_assoc]
end
section
inductive Tm where
 | tst (a : Nat)
 | neg (x : Tm)
 | and (x y : Tm)
 | or (x y : Tm)
def flt : Tm → List T
 | .tst a => [(0,(a : Int))]
 | .neg x => flt x ++ [(1,0)]
 | .and x y => flt x ++ flt y ++ [(2,0)]
 | .or x y => flt x ++ flt y ++ [(3,0)]
def tb (m : Int) : Tm → Prop
 | .tst a => (a : Int) < m
 | .neg x => tb m x
 | .and x y => tb m x ∧ tb m y
 | .or x y => tb m x ∧ tb m y
def ev (s : Nat) : Tm → Bool
 | .tst a => s.testBit a
 | .neg x => !ev s x
 | .and x y => ev s x && ev s y
 | .or x y => ev s x || ev s y
/-- how many parts a mark takes -/
def taken (k : Int) : Nat := if k = 0 then 0 else if k = 1 then 1 else 2
def stepG {P : Type} (mk : T → List P → P) (st : List P) (t : T) : List P := st.take (st.length - taken t.1) ++ [mk t (st.drop (st.length - taken t.1))]
def valG {P : Type} (mk : T → List P → P) : Tm → P
 | .tst a => mk (0,(a : Int)) []
 | .neg x => mk (1,0) [valG mk x]
 | .and x y => mk (2,0) [valG mk x,valG mk y]
 | .or x y => mk (3,0) [valG mk x,valG mk y]
theorem stepG_0 {P : Type} (mk : T → List P → P) (st : List P) (a : Int) : stepG mk st (0,a) = st ++ [mk (0,a) []] := by
 simp [stepG,taken]
theorem stepG_1 {P : Type} (mk : T → List P → P) (st : List P) (x : P) (a : Int) : stepG mk (st ++ [x]) (1,a) = st ++ [mk (1,a) [x]] := by
 simp [stepG,taken]
theorem stepG_2 {P : Type} (mk : T → List P → P) (st : List P) (x y : P) (k a : Int) (h : k = 2 ∨ k = 3) : stepG mk (st ++ [x,y]) (k,a) = st ++ [mk (k,a) [x,y]] := by
 have e : taken k = 2 := by unfold taken; rw [if_neg (by omega),if_neg (by omega)]
 simp [stepG,e]
theorem last1 {α : Type} {l : List α} (h : 1 ≤ l.length) : ∃ r x,l = r ++ [x] := by
 have := List.dropLast_concat_getLast (l := l) (by intro e; rw [e] at h; simp at h)
 exact ⟨_,_,this.symm⟩
theorem last2 {α : Type} {l : List α} (h : 2 ≤ l.length) : ∃ r x y,l = r ++ [x,y] := by
 obtain ⟨r,y,rfl⟩ := last1 (by omega : 1 ≤ l.length)
 obtain ⟨r',x,rfl⟩ := last1 (by simp at h; omega : 1 ≤ r.length)
 exact ⟨r',x,y,by simp⟩
theorem forest {m : Int} : ∀ {ts : List T} {p q : Int},runM m p ts = some q → ∀ F : List Tm,(F.length : Int) = p → (∀ x ∈ F,tb m x) →
  ∃ F' : List Tm,(F'.length : Int) = q ∧ (∀ x ∈ F',tb m x) ∧ F'.flatMap flt = F.flatMap flt ++ ts ∧ ∀ (P : Type) (mk : T → List P → P),ts.foldl (stepG mk) (F.map (valG mk)) = F'.map (valG mk)
 | [],p,q,h,F,hl,hb => by
  simp only [runM,Option.some.injEq] at h
  exact ⟨F,by omega,hb,by simp,fun P mk => rfl⟩
 | t :: ts,p,q,h,F,hl,hb => by
  simp only [runM] at h
  have go : ∀ (G : List Tm),runM m (G.length : Int) ts = some q → (∀ x ∈ G,tb m x) → G.flatMap flt = F.flatMap flt ++ [t] → (∀ (P : Type) (mk : T → List P → P),stepG mk (F.map (valG mk)) t = G.map (valG mk)) →
    ∃ F' : List Tm,(F'.length : Int) = q ∧ (∀ x ∈ F',tb m x) ∧ F'.flatMap flt = F.flatMap flt ++ (t :: ts) ∧ ∀ (P : Type) (mk : T → List P → P),(t :: ts).foldl (stepG mk) (F.map (valG mk)) = F'.map (valG mk) := by
   intro G h1 h2 h3 h4
   obtain ⟨F',q1,q2,q3,q4⟩ := forest h1 G rfl h2
   refine ⟨F',q1,q2,by rw [q3,h3]; simp,fun P mk => ?_⟩
   rw [List.foldl_cons,h4,q4]
  obtain ⟨k,a⟩ := t
  cases hm : mkS m p (k,a) with
  | none => rw [hm] at h; cases h
  | some p1 =>
   rw [hm] at h
   simp only at h
   unfold mkS at hm
   simp only at hm
   split at hm
   ·rename_i hk
    subst hk
    split at hm
    ·rename_i ha
     injection hm with hm
     obtain ⟨n,rfl⟩ := Int.eq_ofNat_of_zero_le ha.1
     refine go (F ++ [.tst n]) (by rw [show (((F ++ [Tm.tst n]).length : Nat) : Int) = p1 by simp; omega]; exact h) (fun x hx => ?_) (by simp [flt]) (fun P mk => by rw [stepG_0]; simp [valG])
     rcases List.mem_append.1 hx with h1 | h1
     ·exact hb x h1
     ·simp only [List.mem_singleton] at h1; subst h1; exact ha.2
    ·cases hm
   ·split at hm
    ·rename_i _ hk
     subst hk
     split at hm
     ·rename_i ha
      injection hm with hm
      obtain ⟨r,x,rfl⟩ := last1 (l := F) (by omega)
      have ha0 := ha.1
      subst ha0
      refine go (r ++ [.neg x]) (by rw [show (((r ++ [Tm.neg x]).length : Nat) : Int) = p1 by simp at hl ⊢; omega]; exact h) (fun y hy => ?_) (by simp [flt]) (fun P mk => by rw [List.map_append]; simp only [List.map_cons,List.map_nil]; rw [stepG_1]; simp [valG])
      rcases List.mem_append.1 hy with h1 | h1
      ·exact hb y (List.mem_append_left _ h1)
      ·simp only [List.mem_singleton] at h1; subst h1; exact hb x (by simp)
     ·cases hm
    ·split at hm
     ·rename_i _ _ hk
      split at hm
      ·rename_i ha
       injection hm with hm
       obtain ⟨r,x,y,rfl⟩ := last2 (l := F) (by omega)
       have ha0 := ha.1
       subst ha0
       have hx := hb x (by simp)
       have hy := hb y (by simp)
       rcases hk with rfl | rfl
       ·refine go (r ++ [.and x y]) (by rw [show (((r ++ [Tm.and x y]).length : Nat) : Int) = p1 by simp at hl ⊢; omega]; exact h) (fun z hz => ?_) (by simp [flt]) (fun P mk => by rw [List.map_append]; simp only [List.map_cons,List.map_nil]; rw [stepG_2 _ _ _ _ _ _ (.inl rfl)]; simp [valG])
        rcases List.mem_append.1 hz with h1 | h1
        ·exact hb z (List.mem_append_left _ h1)
        ·simp only [List.mem_singleton] at h1; subst h1; exact ⟨hx,hy⟩
       ·refine go (r ++ [.or x y]) (by rw [show (((r ++ [Tm.or x y]).length : Nat) : Int) = p1 by simp at hl ⊢; omega]; exact h) (fun z hz => ?_) (by simp [flt]) (fun P mk => by rw [List.map_append]; simp only [List.map_cons,List.map_nil]; rw [stepG_2 _ _ _ _ _ _ (.inr rfl)]; simp [valG])
        rcases List.mem_append.1 hz with h1 | h1
        ·exact hb z (List.mem_append_left _ h1)
        ·simp only [List.mem_singleton] at h1; subst h1; exact ⟨hx,hy⟩
      ·cases hm
     ·cases hm
theorem tm_tree {m : Int} {ts : List T} (h : tmOk m ts = true) : ∃ x,tb m x ∧ flt x = ts ∧ ∀ (P : Type) (mk : T → List P → P),ts.foldl (stepG mk) [] = [valG mk x] := by
 obtain ⟨_,_,h3⟩ := tmOk_iff.1 h
 obtain ⟨F,q1,q2,q3,q4⟩ := forest h3 [] rfl (by simp)
 match F,q1 with
 | [x],_ => exact ⟨x,q2 x (by simp),by simpa using q3,fun P mk => by simpa using q4 P mk⟩

def yesW (a : Nat) : BitVec 32 := match a with
 | 0 => 2863311530#32
 | 1 => 3435973836#32
 | 2 => 4042322160#32
 | 3 => 4278255360#32
 | _ => 4294901760#32
def mkW (t : T) (ps : List (BitVec 32)) : BitVec 32 :=
 if t.1 = 0 then yesW t.2.toNat else if t.1 = 1 then ~~~(ps.getD 0 0) else if t.1 = 2 then ps.getD 0 0 &&& ps.getD 1 0 else ps.getD 0 0 ||| ps.getD 1 0
theorem yes_bit : ∀ (a : _root_.Fin 5) (s : _root_.Fin 32),(yesW a.val).getLsbD s.val = s.val.testBit a.val := by decide +kernel
theorem val_bit {m : Int} (hm : m ≤ 5) : ∀ {x : Tm},tb m x → ∀ {s : Nat},s < 32 → (valG mkW x).getLsbD s = ev s x
 | .tst a,h,s,hs => by
  have ha : a < 5 := by have : (a : Int) < m := h; omega
  have := yes_bit ⟨a,ha⟩ ⟨s,hs⟩
  simpa [valG,mkW,ev] using this
 | .neg x,h,s,hs => by
  have ih := val_bit hm (x := x) h hs
  have e : valG mkW (.neg x) = ~~~(valG mkW x) := by simp [valG,mkW]
  rw [e,BitVec.getLsbD_not,ih]
  simp [hs,ev]
 | .and x y,h,s,hs => by
  have i1 := val_bit hm (x := x) h.1 hs
  have i2 := val_bit hm (x := y) h.2 hs
  simp [valG,mkW,ev,i1,i2]
 | .or x y,h,s,hs => by
  have i1 := val_bit hm (x := x) h.1 hs
  have i2 := val_bit hm (x := y) h.2 hs
  simp [valG,mkW,ev,i1,i2]
def tsW (ts : List T) : BitVec 32 := (ts.foldl (stepG mkW) []).headD 0
/-- the value of a term in a state -/
def tv (ts : List T) (s : Nat) : Bool := (tsW ts).getLsbD s
theorem tv_tree {m : Int} {ts : List T} (h : tmOk m ts = true) : ∃ x,tb m x ∧ flt x = ts ∧ ts.foldl (stepG mkW) [] = [tsW ts] ∧ ∀ s,s < 32 → tv ts s = ev s x := by
 obtain ⟨h1,_,_⟩ := tmOk_iff.1 h
 obtain ⟨x,b,f,g⟩ := tm_tree h
 have e : tsW ts = valG mkW x := by unfold tsW; rw [g]; rfl
 exact ⟨x,b,f,by rw [g,e],fun s hs => by unfold tv; rw [e]; exact val_bit h1.2 b hs⟩
/-- A term reads no tests but its own. -/
theorem ev_congr {m : Int} {s s' : Nat} (h : ∀ a : Nat,(a : Int) < m → s.testBit a = s'.testBit a) : ∀ {x : Tm},tb m x → ev s x = ev s' x
 | .tst a,hb => h a hb
 | .neg x,hb => by simp only [ev,ev_congr h (x := x) hb]
 | .and x y,hb => by simp only [ev,ev_congr h (x := x) hb.1,ev_congr h (x := y) hb.2]
 | .or x y,hb => by simp only [ev,ev_congr h (x := x) hb.1,ev_congr h (x := y) hb.2]
end
section
theorem xor_bound {a b : Int} (h1 : 0 ≤ a) (h2 : a < 4611686018427387904) (h3 : 0 ≤ b) (h4 : b < 4611686018427387904) : 0 ≤ xorI a b ∧ xorI a b < 4611686018427387904 := by
 have e : (BitVec.ofInt 64 a ^^^ BitVec.ofInt 64 b).toNat = a.toNat ^^^ b.toNat := by
  simp only [BitVec.toNat_xor,BitVec.toNat_ofInt]
  congr 1 <;> omega
 have k : a.toNat ^^^ b.toNat < 2 ^ 62 := Nat.xor_lt_two_pow (by omega) (by omega)
 unfold xorI
 rw [e,wr_id (by omega) (by omega)]
 omega
def hs (bs : List Nat) (p : Int) : Int := (bs.getD (p.tmod bs.length).toNat 0 : Nat) * 131 + (bs.getD ((p * 7 + 3).tmod bs.length).toNat 0 : Nat) * 1117 + p * 29 + p.tdiv bs.length * 53
def pk (bs : List Nat) (p n : Int) : Int := if bs.length = 0 then 0 else if p < bs.length then ((bs.getD p.toNat 0 : Nat) : Int).tmod n else (xorI (hs bs p) ((hs bs p).tdiv 64)).tmod n
theorem byte_lt {bs : List Nat} (hb : ∀ y ∈ bs,y < 256) (i : Nat) : bs.getD i 0 < 256 := by
 by_cases h : i < bs.length
 ·have : bs.getD i 0 = bs[i] := by simp [List.getD,h]
  rw [this]
  exact hb _ (List.getElem_mem h)
 ·have : bs.getD i 0 = 0 := by simp [List.getD,List.getElem?_eq_none (by omega : bs.length ≤ i)]
  omega
theorem tdiv_bound {p l : Int} (h0 : 0 ≤ p) (hl : 1 ≤ l) : 0 ≤ p.tdiv l ∧ p.tdiv l ≤ p := by
 rw [Int.tdiv_eq_ediv_of_nonneg h0]
 exact ⟨Int.ediv_nonneg h0 (by omega),Int.ediv_le_self _ h0⟩
theorem tmod_bound {p l : Int} (h0 : 0 ≤ p) (hl : 1 ≤ l) : 0 ≤ p.tmod l ∧ p.tmod l < l := by
 rw [Int.tmod_eq_emod_of_nonneg h0]
 exact ⟨Int.emod_nonneg _ (by omega),Int.emod_lt_of_pos _ (by omega)⟩
theorem hs_bound {bs : List Nat} (hb : ∀ y ∈ bs,y < 256) {p : Int} (h0 : 0 ≤ p) (h1 : p ≤ 1000000) (hl : 1 ≤ bs.length) : 0 ≤ hs bs p ∧ hs bs p < 1000000000 := by
 have a := byte_lt hb (p.tmod bs.length).toNat
 have b := byte_lt hb ((p * 7 + 3).tmod bs.length).toNat
 have c := tdiv_bound (p := p) (l := bs.length) h0 (by omega)
 unfold hs
 omega
theorem pk_bound {bs : List Nat} (hb : ∀ y ∈ bs,y < 256) {p n : Int} (h0 : 0 ≤ p) (h1 : p ≤ 1000000) (hn : 1 ≤ n) : 0 ≤ pk bs p n ∧ pk bs p n < n := by
 unfold pk
 split
 ·omega
 ·split
  ·exact tmod_bound (by omega) hn
  ·have a := hs_bound hb h0 h1 (by omega)
   have b := tdiv_bound (p := hs bs p) (l := 64) a.1 (by omega)
   have c := xor_bound a.1 (by omega) b.1 (by omega)
   exact tmod_bound c.1 hn
theorem atI_y {bs : List Nat} {i : Int} (h0 : 0 ≤ i) (h1 : i < bs.length) : atI (bs.map .y) i = some (.y (bs.getD i.toNat 0)) := by
 have : i.toNat < bs.length := by omega
 simp [atI,h0,List.getD,this]

theorem c_pick {bs : List Nat} (hb : ∀ y ∈ bs,y < 256) (hl : bs.length ≤ 2000) {p n : Int} (h0 : 0 ≤ p) (h1 : p < 1000000) (hn : 1 ≤ n) :
  call lf n_spec_l20Rd_pick [.ref (.st [.sl 0 (bs.map .y),.i p]),.i n] = some (.i (pk bs p n),[.st [.sl 0 (bs.map .y),.i (p + 1)]]) := by
 rw [call_k lf n_spec_l20Rd_pick _ (F := F_spec_l20Rd_pick) rfl rfl]
 have w1 : wr (p + 1) = p + 1 := wr_id (by omega) (by omega)
 have w2 : wr p = p := wr_id (by omega) (by omega)
 have n1 : ¬ n < 1 := by omega
 have n2 : ¬ n = 0 := by omega
 by_cases e : bs.length = 0
 ·have e1 : ((bs.length : Int) == 0) = true := by rw [e]; rfl
  simp [F_spec_l20Rd_pick,w1,n1,e1,pk,e]
 ·have e1 : ((bs.length : Int) == 0) = false := beq_eq_false_iff_ne.2 (by omega)
  by_cases f : p < bs.length
  ·have a := atI_y (bs := bs) h0 f
   simp [F_spec_l20Rd_pick,w1,w2,n1,n2,e1,pk,e,f,a]
  ·have lpos : (1 : Int) ≤ bs.length := by omega
   have l0 : ¬ bs = [] := fun h => e (by rw [h]; rfl)
   have t1 := tmod_bound h0 lpos
   have t2 := tmod_bound (p := p * 7 + 3) (by omega) lpos
   have a1 := atI_y t1.1 t1.2
   have a2 := atI_y t2.1 t2.2
   have b1 := byte_lt hb (p.tmod bs.length).toNat
   have b2 := byte_lt hb ((p * 7 + 3).tmod bs.length).toNat
   have d := tdiv_bound h0 lpos
   have H := hs_bound hb h0 (by omega) (by omega : 1 ≤ bs.length)
   have hd : hs bs p = (bs.getD (p.tmod bs.length).toNat 0 : Nat) * 131 + (bs.getD ((p * 7 + 3).tmod bs.length).toNat 0 : Nat) * 1117 + p * 29 + p.tdiv bs.length * 53 := rfl
   have hp : pk bs p n = (xorI (hs bs p) ((hs bs p).tdiv 64)).tmod n := by unfold pk; rw [if_neg e,if_neg f]
   generalize bs.getD (p.tmod bs.length).toNat 0 = u at *
   generalize bs.getD ((p * 7 + 3).tmod bs.length).toNat 0 = v at *
   have v1 : wr (p * 7) = p * 7 := wr_id (by omega) (by omega)
   have v2 : wr (p * 7 + 3) = p * 7 + 3 := wr_id (by omega) (by omega)
   have v3 : wr ((u : Int) * 131) = u * 131 := wr_id (by omega) (by omega)
   have v4 : wr ((v : Int) * 1117) = v * 1117 := wr_id (by omega) (by omega)
   have v5 : wr ((u : Int) * 131 + v * 1117) = u * 131 + v * 1117 := wr_id (by omega) (by omega)
   have v6 : wr (p * 29) = p * 29 := wr_id (by omega) (by omega)
   have v7 : wr ((u : Int) * 131 + v * 1117 + p * 29) = u * 131 + v * 1117 + p * 29 := wr_id (by omega) (by omega)
   have v8 : wr (p.tdiv bs.length) = p.tdiv bs.length := wr_id (by omega) (by omega)
   have v9 : wr (p.tdiv bs.length * 53) = p.tdiv bs.length * 53 := wr_id (by omega) (by omega)
   have va : wr ((u : Int) * 131 + v * 1117 + p * 29 + p.tdiv bs.length * 53) = hs bs p := by rw [hd]; exact wr_id (by omega) (by omega)
   have b := tdiv_bound (p := hs bs p) (l := 64) H.1 (by omega)
   have vb : wr ((hs bs p).tdiv 64) = (hs bs p).tdiv 64 := wr_id (by omega) (by omega)
   simp [F_spec_l20Rd_pick,w1,w2,n1,n2,e1,f,l0,a1,a2,v1,v2,v3,v4,v5,v6,v7,v8,v9,va,vb,hp]
theorem c_odd {bs : List Nat} (hb : ∀ y ∈ bs,y < 256) (hl : bs.length ≤ 2000) {p n : Int} (h0 : 0 ≤ p) (h1 : p < 1000000) (hn : 1 ≤ n) (hn2 : n ≤ 1000000) :
  call lf n_spec_l20Rd_odd [.ref (.st [.sl 0 (bs.map .y),.i p]),.i n] = some (.b (pk bs p n == n - 1),[.st [.sl 0 (bs.map .y),.i (p + 1)]]) := by
 rw [call_k lf n_spec_l20Rd_odd _ (F := F_spec_l20Rd_odd) rfl rfl]
 have n1 : 0 < n := by omega
 have w : wr (n - 1) = n - 1 := wr_id (by omega) (by omega)
 simp [F_spec_l20Rd_odd,n1,w,c_pick hb hl h0 h1 hn]
theorem c_open {bs : List Nat} (hl : bs.length ≤ 1048576) : call lf n_spec_l20Open [.sl 0 (bs.map .y)] = some (.ref (.st [.sl 0 ((bs.take 2000).map .y),.i 0]),[]) := by
 rw [call_k lf n_spec_l20Open _ (F := F_spec_l20Open) rfl rfl]
 by_cases h : 2000 < (bs.length : Int)
 ·have h2 : (2000 : Int) ≤ bs.length := by omega
  have h3 : ∀ x ∈ bs,(DV.y x).cells.length = 1 := fun _ _ => rfl
  simp [F_spec_l20Open,h,h2,List.map_take]
 ·have h2 : bs.take 2000 = bs := List.take_of_length_le (by omega)
  simp [F_spec_l20Open,h,h2]

theorem l_l20Tests {bs : List Nat} (hb : ∀ y ∈ bs,y < 256) (hl : bs.length ≤ 2000) (nn : Int) (j : Nat) : ∀ (p : Int) (ts : List T),0 ≤ p → p + 2 * j < 900000 → ts.length + j ≤ 100 →
  ∃ us : List T,us.length = ts.length + j ∧
  ex lf F_spec_l20Tests_W0 ⟨[(0,.oad 23 1 0 0),(1,.i nn),(5,.own 3600 ts.length 0 ts.length),(6,.i j)],[(23,[.st [.sl 0 (bs.map .y),.i p]]),(3600,ts.map e2)]⟩ =
   some (.exit 0,⟨[(0,.oad 23 1 0 0),(1,.i nn),(5,.own 3600 us.length 0 us.length),(6,.i 0)],[(23,[.st [.sl 0 (bs.map .y),.i (p + 2 * j)]]),(3600,us.map e2)]⟩) := by
 induction j with
 | zero =>
  intro p ts h0 h1 h2
  refine ⟨ts,by omega,?_⟩
  rw [w_spec_l20Tests_0]
  simp [F_spec_l20Tests_L0]
 | succ j ih =>
  intro p ts h0 h1 h2
  have a1 := pk_bound hb h0 (by omega : p ≤ 1000000) (by omega : (1 : Int) ≤ 9)
  have a2 := pk_bound hb (by omega : 0 ≤ p + 1) (by omega : p + 1 ≤ 1000000) (by omega : (1 : Int) ≤ 5)
  have k1 := c_pick hb hl h0 (by omega : p < 1000000) (by omega : (1 : Int) ≤ 9)
  have k2 := c_pick hb hl (by omega : 0 ≤ p + 1) (by omega : p + 1 < 1000000) (by omega : (1 : Int) ≤ 5)
  have w1 : wr (1 + pk bs p 9) = 1 + pk bs p 9 := wr_id (by omega) (by omega)
  have w2 : wr (1 + pk bs (p + 1) 5) = 1 + pk bs (p + 1) 5 := wr_id (by omega) (by omega)
  have w3 : wr (j : Int) = j := wr_id (by omega) (by omega)
  obtain ⟨us,u1,u2⟩ := ih (p + 1 + 1) (ts ++ [(1 + pk bs p 9,1 + pk bs (p + 1) 5)]) (by omega) (by omega) (by simp; omega)
  refine ⟨us,by rw [u1]; simp; omega,?_⟩
  rw [w_spec_l20Tests_0]
  have c1 : (0 : Int) < (j : Int) + 1 := by omega
  have c2 : ts.length + 1 ≤ bound := by unfold bound; omega
  simp [e2,Int.natCast_add] at u2
  rw [show p + 2 * ((j + 1 : Nat) : Int) = p + 1 + 1 + 2 * j by omega]
  simp [F_spec_l20Tests_L0,c1,c2,k1,k2,w1,w2,w3,e2,u2]
theorem c_l20Tests {bs : List Nat} (hb : ∀ y ∈ bs,y < 256) (hl : bs.length ≤ 2000) {p n : Int} (h0 : 0 ≤ p) (h1 : p < 800000) (hn : 1 ≤ n) (hn2 : n ≤ 1000000) :
  ∃ (us : List T) (p' : Int),us.length ≤ 5 ∧ p ≤ p' ∧ p' ≤ p + 20 ∧ call lf n_spec_l20Tests [.ref (.st [.sl 0 (bs.map .y),.i p]),.i n] = some (.fr 2 (us.map e2),[.st [.sl 0 (bs.map .y),.i p']]) := by
 have a1 := pk_bound hb h0 (by omega : p ≤ 1000000) (by omega : (1 : Int) ≤ 5)
 have k1 := c_pick hb hl h0 (by omega : p < 1000000) (by omega : (1 : Int) ≤ 5)
 obtain ⟨j,hj⟩ : ∃ j : Nat,1 + pk bs p 5 = j := ⟨(1 + pk bs p 5).toNat,by omega⟩
 have w1 : wr (j : Int) = j := wr_id (by omega) (by omega)
 obtain ⟨us,u1,u2⟩ := l_l20Tests hb hl n j (p + 1) [] (by omega) (by omega) (by simp; omega)
 simp at u1 u2
 have q0 : 0 ≤ p + 1 + 2 * (j : Int) := by omega
 have k2 := c_odd hb hl q0 (by omega) hn hn2
 generalize hq : p + 1 + 2 * (j : Int) = q at *
 cases ho : (pk bs q n == n - 1) with
 | false =>
  rw [ho] at k2
  refine ⟨us,q + 1,by omega,by omega,by omega,?_⟩
  rw [call_k lf n_spec_l20Tests _ (F := F_spec_l20Tests) rfl rfl]
  simp [F_spec_l20Tests,k1,hj,w1,u2,k2]
 | true =>
  rw [ho] at k2
  have k3 := c_pick hb hl (by omega : 0 ≤ q + 1) (by omega : q + 1 < 1000000) (by omega : (1 : Int) ≤ 3)
  have a3 := pk_bound hb (by omega : 0 ≤ q + 1) (by omega : q + 1 ≤ 1000000) (by omega : (1 : Int) ≤ 3)
  have k4 := c_pick hb hl (by omega : 0 ≤ q + 1 + 1) (by omega : q + 1 + 1 < 1000000) (by omega : (1 : Int) ≤ 2)
  have a4 := pk_bound hb (by omega : 0 ≤ q + 1 + 1) (by omega : q + 1 + 1 ≤ 1000000) (by omega : (1 : Int) ≤ 2)
  match us,u1 with
  | [],u1 => simp at u1; omega
  | t :: r,u1 =>
   simp [e2,Int.natCast_add] at u2
   generalize pk bs (q + 1) 3 = x3 at *
   generalize pk bs (q + 1 + 1) 2 = x4 at *
   have c3 : x3 = 0 ∨ x3 = 1 ∨ x3 = 2 := by omega
   have c4 : x4 = 0 ∨ x4 = 1 := by omega
   have e0 : ∀ (a b : Int),DV.st [.i a,.i b] = e2 (a,b) := fun _ _ => rfl
   rcases c3 with rfl | rfl | rfl
   ·refine ⟨[],q + 1 + 1,by simp,by omega,by omega,?_⟩
    rw [call_k lf n_spec_l20Tests _ (F := F_spec_l20Tests) rfl rfl]
    simp [F_spec_l20Tests,k1,hj,w1,u2,k2,k3]
   ·rcases c4 with rfl | rfl
    ·refine ⟨(0,t.2) :: r,q + 1 + 1 + 1,by simp at u1 ⊢; omega,by omega,by omega,?_⟩
     rw [call_k lf n_spec_l20Tests _ (F := F_spec_l20Tests) rfl rfl]
     simp [F_spec_l20Tests,k1,hj,w1,u2,k2,k3,k4,e2]
    ·refine ⟨(10,t.2) :: r,q + 1 + 1 + 1,by simp at u1 ⊢; omega,by omega,by omega,?_⟩
     rw [call_k lf n_spec_l20Tests _ (F := F_spec_l20Tests) rfl rfl]
     simp [F_spec_l20Tests,k1,hj,w1,u2,k2,k3,k4,e2]
   ·rcases c4 with rfl | rfl
    ·refine ⟨(t.1,0) :: r,q + 1 + 1 + 1,by simp at u1 ⊢; omega,by omega,by omega,?_⟩
     rw [call_k lf n_spec_l20Tests _ (F := F_spec_l20Tests) rfl rfl]
     simp [F_spec_l20Tests,k1,hj,w1,u2,k2,k3,k4,e2]
    ·refine ⟨(t.1,6) :: r,q + 1 + 1 + 1,by simp at u1 ⊢; omega,by omega,by omega,?_⟩
     rw [call_k lf n_spec_l20Tests _ (F := F_spec_l20Tests) rfl rfl]
     simp [F_spec_l20Tests,k1,hj,w1,u2,k2,k3,k4,e2]

theorem take_b {bs : List Nat} (hb : ∀ y ∈ bs,y < 256) : (∀ y ∈ bs.take 2000,y < 256) ∧ (bs.take 2000).length ≤ 2000 :=
 ⟨fun y h => hb y (List.mem_of_mem_take h),by simp; omega⟩
theorem quo39 {x : Int} (h0 : 0 ≤ x) (h1 : x < 40) : x.tdiv 39 = 0 ∨ x.tdiv 39 = 1 := by
 rw [Int.tdiv_eq_ediv_of_nonneg h0]; omega
end
section
theorem cells_st (cs : List DV) : (DV.st cs).cells = cs := rfl
theorem cells_sl (p : Nat) (es : List DV) : (DV.sl p es).cells = [DV.sl p es] := rfl
theorem cells_i (n : Int) : (DV.i n).cells = [DV.i n] := rfl
theorem cells_y (n : Nat) : (DV.y n).cells = [DV.y n] := rfl
theorem cells_b (n : Bool) : (DV.b n).cells = [DV.b n] := rfl
theorem cells_s (n : List UInt8) : (DV.s n).cells = [DV.s n] := rfl
attribute [-simp] DV.cells
attribute [local simp] cells_st cells_sl cells_i cells_y cells_b cells_s
def row (t : List T) : DV := .sl 1 (t.map e2)
theorem e2_wid (t : List T) : ∀ e ∈ t.map e2,e.cells.length = 2 := by
 intro e he
 obtain ⟨t,_,rfl⟩ := List.mem_map.1 he
 rfl
theorem flat_set (m : T) : ∀ {ps : List (List T)} {A : Nat} {t : List T},ps[A]? = some t → (ps.set A (t ++ [m])).flatten.length = ps.flatten.length + 1
 | [],_,_,h => by simp at h
 | x :: ps,0,t,h => by simp at h; subst h; simp; omega
 | x :: ps,A + 1,t,h => by
  simp only [List.getElem?_cons_succ] at h
  have := flat_set m h
  simp at this ⊢
  omega
theorem flat_len : ∀ {ps : List (List T)} {A : Nat} {t : List T},ps[A]? = some t → t.length ≤ ps.flatten.length
 | [],_,_,h => by simp at h
 | x :: ps,0,t,h => by simp at h; subst h; simp
 | x :: ps,A + 1,t,h => by
  simp only [List.getElem?_cons_succ] at h
  have := flat_len h
  simp only [List.flatten_cons,List.length_append]; omega
end
section
attribute [-simp] DV.cells
attribute [local simp] cells_st cells_sl cells_i cells_y cells_b cells_s
theorem cells_w (x : BitVec 32) : (DV.w x).cells = [DV.w x] := rfl
attribute [local simp] cells_w
theorem c_impl_statesOfPart (k a : Int) (ps : List (BitVec 32)) (h : (k = 0 ∧ 0 ≤ a ∧ a < 5) ∨ (k = 1 ∧ 1 ≤ ps.length) ∨ ((k = 2 ∨ k = 3) ∧ 2 ≤ ps.length)) :
  call lf n_impl_statesOfPart [.st [.i k,.i a],.sl 0 (ps.map .w)] = some (.w (mkW (k,a) ps),[]) := by
 rw [call_k lf n_impl_statesOfPart _ (F := F_impl_statesOfPart) rfl rfl]
 rcases h with ⟨rfl,h0,h5⟩ | ⟨rfl,h1⟩ | ⟨hk,h2⟩
 ·have c5 : a = 0 ∨ a = 1 ∨ a = 2 ∨ a = 3 ∨ a = 4 := by omega
  rcases c5 with rfl | rfl | rfl | rfl | rfl <;> simp [F_impl_statesOfPart,gEnv_0,mkW,yesW]
 ·obtain ⟨x,xs,rfl⟩ : ∃ x xs,ps = x :: xs := by cases ps with | nil => simp at h1 | cons x xs => exact ⟨x,xs,rfl⟩
  simp [F_impl_statesOfPart,gEnv_0,mkW,atI]
 ·obtain ⟨x,y,xs,rfl⟩ : ∃ x y xs,ps = x :: y :: xs := by
   match ps,h2 with
   | x :: y :: xs,_ => exact ⟨x,y,xs,rfl⟩
  rcases hk with rfl | rfl <;> simp [F_impl_statesOfPart,gEnv_0,mkW,atI]
end
section
attribute [-simp] DV.cells
attribute [local simp] cells_st cells_sl cells_i cells_y cells_b cells_s cells_w
/-- the stack lies in front of what was there -/
def stF (n k : Int) (es : List DV) (N : Nat) (g : List DV) (st : List (BitVec 32)) : LS :=
 ⟨[(1,.fn n_impl_statesOfPart []),(5,.own 2568 N 0 st.length),(10,.sl 0 es),(11,.i n),(12,.i k)],[(2568,st.map .w ++ g)]⟩
set_option maxHeartbeats 4000000 in
theorem l_fold0 (n k : Int) (es : List DV) (N : Nat) (g : List DV) (st : List (BitVec 32)) (hN : N = st.length + g.length) (hl : st.length ≤ 1000) (a : Int) (h0 : 0 ≤ a) (h5 : a < 5) (hk : k < n) (hat : atI es k = some (.st [.i 0,.i a])) (hw : wr (k + 1) = k + 1) :
  ∃ N' g',N' = (stepG mkW st (0,a)).length + g'.length ∧ ex lf F_impl_foldTerm_uint32_L0 (stF n k es N g st) = some (.normal,stF n (k + 1) es N' g' (stepG mkW st (0,a))) := by
 have C := c_impl_statesOfPart 0 a [] (.inl ⟨rfl,h0,h5⟩)
 have P := c_impl_partsTaken 0
 have w1 : wr (st.length : Int) = st.length := wr_id (by omega) (by omega)
 have b1 : st.length + 1 ≤ bound := by unfold bound; omega
 rw [stepG_0]
 simp at C P
 cases g with
 | nil =>
  refine ⟨st.length + 1,[],by simp,?_⟩
  have hN' : N = st.length := by simpa using hN
  subst hN'
  unfold stF
  simp [F_impl_foldTerm_uint32_L0,hk,hat,hw,C,P,w1,b1]
 | cons y g =>
  refine ⟨N,g,by simp at hN ⊢; omega,?_⟩
  have hL : (st.map DV.w ++ y :: g).length = N := by rw [hN]; simp
  have t1 : List.take st.length (st.map DV.w ++ y :: g) = st.map .w := by rw [List.take_append_of_le_length (by simp),List.take_of_length_le (by simp)]
  have t2 : List.drop (st.length + 1) (st.map DV.w ++ y :: g) = g := by rw [List.drop_append]; simp
  have n1 : st.length < N := by rw [hN]; simp
  have n2 : st.length + 1 ≤ N := by omega
  have n3 : ¬ st.length = N := by omega
  have n4 : st.length ≤ N := by omega
  have t4 : List.drop st.length (st.map DV.w) = [] := List.drop_of_length_le (by simp)
  unfold stF
  generalize st.map DV.w ++ y :: g = L at *
  simp [F_impl_foldTerm_uint32_L0,hk,hat,hw,C,P,w1,b1,hL,t1,t2,t4,n1,n2,n3,n4]
set_option maxHeartbeats 4000000 in
theorem l_fold1 (n k : Int) (es : List DV) (N : Nat) (g : List DV) (st : List (BitVec 32)) (x : BitVec 32) (hN : N = (st ++ [x]).length + g.length) (hl : st.length ≤ 1000) (a : Int) (hk : k < n) (hat : atI es k = some (.st [.i 1,.i a])) (hw : wr (k + 1) = k + 1) :
  ∃ N' g',N' = (stepG mkW (st ++ [x]) (1,a)).length + g'.length ∧ ex lf F_impl_foldTerm_uint32_L0 (stF n k es N g (st ++ [x])) = some (.normal,stF n (k + 1) es N' g' (stepG mkW (st ++ [x]) (1,a))) := by
 have C := c_impl_statesOfPart 1 a [x] (.inr (.inl ⟨rfl,by simp⟩))
 have P := c_impl_partsTaken 1
 have w1 : wr (st.length : Int) = st.length := wr_id (by omega) (by omega)
 have b1 : st.length + 1 ≤ bound := by unfold bound; omega
 rw [stepG_1]
 simp at C P hN
 refine ⟨N,g,by simp; omega,?_⟩
 have hL : ((st ++ [x]).map DV.w ++ g).length = N := by rw [hN]; simp; omega
 have t1 : List.take st.length ((st ++ [x]).map DV.w ++ g) = st.map .w := by rw [List.map_append,List.append_assoc,List.take_append_of_le_length (by simp),List.take_of_length_le (by simp)]
 have t2 : List.drop (st.length + 1) ((st ++ [x]).map DV.w ++ g) = g := by rw [List.drop_append]; simp
 have t3 : List.drop st.length (List.take (st.length + 1) ((st ++ [x]).map DV.w ++ g)) = [.w x] := by
  rw [List.take_append_of_le_length (by simp),List.take_of_length_le (by simp),List.map_append,List.drop_append]; simp
 have n1 : st.length < N := by omega
 have n2 : st.length + 1 ≤ N := by omega
 have n3 : ¬ st.length = N := by omega
 have n4 : st.length ≤ N := by omega
 have l1 : (st.length : Int) ≤ st.length + 1 := by omega
 unfold stF
 generalize (st ++ [x]).map DV.w ++ g = L at *
 simp [F_impl_foldTerm_uint32_L0,hk,hat,hw,C,P,w1,b1,hL,t1,t2,t3,n1,n2,n3,n4,l1]
set_option maxHeartbeats 4000000 in
theorem l_fold2 (n k : Int) (es : List DV) (N : Nat) (g : List DV) (st : List (BitVec 32)) (x y : BitVec 32) (hN : N = (st ++ [x,y]).length + g.length) (hl : st.length ≤ 1000) (c a : Int) (hc : c = 2 ∨ c = 3) (hk : k < n) (hat : atI es k = some (.st [.i c,.i a])) (hw : wr (k + 1) = k + 1) :
  ∃ N' g',N' = (stepG mkW (st ++ [x,y]) (c,a)).length + g'.length ∧ ex lf F_impl_foldTerm_uint32_L0 (stF n k es N g (st ++ [x,y])) = some (.normal,stF n (k + 1) es N' g' (stepG mkW (st ++ [x,y]) (c,a))) := by
 have C := c_impl_statesOfPart c a [x,y] (.inr (.inr ⟨hc,by simp⟩))
 have P := c_impl_partsTaken c
 rw [if_neg (by omega),if_neg (by omega)] at P
 have w1 : wr (st.length : Int) = st.length := wr_id (by omega) (by omega)
 have b1 : st.length + 1 ≤ bound := by unfold bound; omega
 rw [stepG_2 _ _ _ _ _ _ hc]
 simp at C hN
 refine ⟨N,.w y :: g,by simp; omega,?_⟩
 have hL : ((st ++ [x,y]).map DV.w ++ g).length = N := by rw [hN]; simp; omega
 have t1 : List.take st.length ((st ++ [x,y]).map DV.w ++ g) = st.map .w := by rw [List.map_append,List.append_assoc,List.take_append_of_le_length (by simp),List.take_of_length_le (by simp)]
 have t2 : List.drop (st.length + 1) ((st ++ [x,y]).map DV.w ++ g) = .w y :: g := by
  rw [List.map_append,List.append_assoc,List.drop_append]; simp
 have t3 : List.drop st.length (List.take (st.length + 2) ((st ++ [x,y]).map DV.w ++ g)) = [.w x,.w y] := by
  rw [List.take_append_of_le_length (by simp),List.take_of_length_le (by simp),List.map_append,List.drop_append]; simp
 have n1 : st.length < N := by omega
 have n2 : st.length + 1 ≤ N := by omega
 have n3 : ¬ st.length = N := by omega
 have n4 : st.length ≤ N := by omega
 have n5 : st.length + 2 ≤ N := by omega
 have l1 : (st.length : Int) ≤ st.length + 2 := by omega
 have tn : ((st.length : Int) + 2).toNat = st.length + 2 := by omega
 unfold stF
 generalize (st ++ [x,y]).map DV.w ++ g = L at *
 simp [F_impl_foldTerm_uint32_L0,hk,hat,hw,C,P,w1,b1,hL,t1,t2,t3,n1,n2,n3,n4,n5,l1,tn]
theorem l_fold (m n : Int) (hm : m ≤ 5) (hb : n < 1000000) (es : List DV) : ∀ (rest : List T) (k p q : Int) (st : List (BitVec 32)) (N : Nat) (g : List DV),N = st.length + g.length → 0 ≤ k → k + rest.length = n → es.drop k.toNat = rest.map e2 → (st.length : Int) = p → runM m p rest = some q → st.length + rest.length ≤ 1000 →
  ∃ N' g',N' = (rest.foldl (stepG mkW) st).length + g'.length ∧ ex lf F_impl_foldTerm_uint32_W0 (stF n k es N g st) = some (.exit 0,stF n n es N' g' (rest.foldl (stepG mkW) st))
 | [],k,p,q,st,N,g,hN,h0,hn,hd,hp,hr,hl => by
  refine ⟨N,g,hN,?_⟩
  rw [w_impl_foldTerm_uint32_0]
  have hk : k = n := by simpa using hn
  subst hk
  unfold stF
  simp [F_impl_foldTerm_uint32_L0]
 | t :: rest,k,p,q,st,N,g,hN,h0,hn,hd,hp,hr,hl => by
  obtain ⟨s1,s2,s3,s4,s5,s6⟩ := stp (es := es) (xs := rest.map e2) (x := e2 t) (k := k) (n := n) h0 (by simpa using hn) (by omega) (by simpa using hd)
  simp only [List.length_cons] at hl
  have hmk := hr
  simp only [runM] at hr
  cases hm' : mkS m p t with
  | none => rw [hm'] at hr; cases hr
  | some p1 =>
   rw [hm'] at hr
   simp only at hr
   obtain ⟨c,a⟩ := t
   simp only [e2] at s2
   have go : (∃ N1 g1,N1 = (stepG mkW st (c,a)).length + g1.length ∧ ex lf F_impl_foldTerm_uint32_L0 (stF n k es N g st) = some (.normal,stF n (k + 1) es N1 g1 (stepG mkW st (c,a)))) → ((stepG mkW st (c,a)).length : Int) = p1 → (stepG mkW st (c,a)).length ≤ st.length + 1 →
     ∃ N' g',N' = (((c,a) :: rest).foldl (stepG mkW) st).length + g'.length ∧ ex lf F_impl_foldTerm_uint32_W0 (stF n k es N g st) = some (.exit 0,stF n n es N' g' (((c,a) :: rest).foldl (stepG mkW) st)) := by
    rintro ⟨N1,g1,hN1,h1⟩ h2 h3
    obtain ⟨N',g',q1,q2⟩ := l_fold m n hm hb es rest (k + 1) p1 q (stepG mkW st (c,a)) N1 g1 hN1 s4 (by simpa using s5) s6 h2 hr (by omega)
    refine ⟨N',g',q1,?_⟩
    rw [w_impl_foldTerm_uint32_0,h1]
    exact q2
   unfold mkS at hm'
   simp only at hm'
   split at hm'
   ·rename_i hc
    subst hc
    split at hm'
    ·rename_i ha
     injection hm' with hm'
     exact go (l_fold0 n k es N g st hN (by omega) a ha.1 (by omega) s1 s2 s3) (by rw [stepG_0]; simp; omega) (by rw [stepG_0]; simp)
    ·cases hm'
   ·split at hm'
    ·rename_i _ hc
     subst hc
     split at hm'
     ·rename_i ha
      injection hm' with hm'
      obtain ⟨r,x,rfl⟩ := last1 (l := st) (by omega)
      have hl' := hl
      simp only [List.length_append,List.length_singleton] at hl hp
      exact go (l_fold1 n k es N g r x hN (by omega) a s1 s2 s3) (by rw [stepG_1]; simp; omega) (by rw [stepG_1]; simp)
     ·cases hm'
    ·split at hm'
     ·rename_i _ _ hc
      split at hm'
      ·rename_i ha
       injection hm' with hm'
       obtain ⟨r,x,y,rfl⟩ := last2 (l := st) (by omega)
       simp only [List.length_append,List.length_cons,List.length_nil] at hl hp
       exact go (l_fold2 n k es N g r x y hN (by omega) c a hc s1 s2 s3) (by rw [stepG_2 _ _ _ _ _ _ hc]; simp; omega) (by rw [stepG_2 _ _ _ _ _ _ hc]; simp)
      ·cases hm'
     ·cases hm'
theorem c_impl_trueStates {m : Int} {ts : List T} (h : tmOk m ts = true) : call lf n_impl_trueStates [.sl 0 (ts.map e2)] = some (.w (tsW ts),[]) := by
 obtain ⟨h1,h2,h3⟩ := tmOk_iff.1 h
 obtain ⟨x,_,_,hf,_⟩ := tv_tree h
 obtain ⟨N',g',hN',L⟩ := l_fold m ts.length h1.2 (by omega) (ts.map e2) ts 0 0 1 [] 0 [] rfl (Int.le_refl _) (by simp) (by simp) rfl h3 (by simp; omega)
 rw [hf] at L hN'
 have C : call lf n_impl_foldTerm_uint32 [.sl 0 (ts.map e2),.fn n_impl_statesOfPart []] = some (.w (tsW ts),[]) := by
  rw [call_k lf n_impl_foldTerm_uint32 _ (F := F_impl_foldTerm_uint32) rfl rfl]
  unfold stF at L
  simp at L hN'
  have hL : g'.length + 1 = N' := by omega
  have n1 : 1 ≤ N' := by omega
  simp [F_impl_foldTerm_uint32,L,hL,n1]
 rw [call_k lf n_impl_trueStates _ (F := F_impl_trueStates) rfl rfl]
 simp [F_impl_trueStates,C]
end
section
attribute [-simp] DV.cells
attribute [local simp] cells_st cells_sl cells_i cells_y cells_b cells_s cells_w
theorem bitW (v : BitVec 32) (s : Nat) : (shrW v s &&& 1#32 == 1#32) = v.getLsbD s := by
 unfold shrW
 rw [BitVec.and_one_eq_setWidth_ofBool_getLsbD,BitVec.getLsbD_ushiftRight,Nat.add_zero]
 cases v.getLsbD s <;> rfl
theorem c_impl_hasState (v : BitVec 32) (s : Int) (h0 : 0 ≤ s) (h1 : s < 32) : call lf n_impl_hasState [.w v,.i s] = some (.b (v.getLsbD s.toNat),[]) := by
 rw [call_k lf n_impl_hasState _ (F := F_impl_hasState) rfl rfl]
 have e : min s.toNat 32 = s.toNat := by omega
 have n0 : ¬ s < 0 := by omega
 simp [F_impl_hasState,n0,e,bitW]
attribute [-simp] sliceD
def bI (b : Bool) : Int := if b then 1 else 0
end
section
attribute [-simp] DV.cells sliceD
attribute [local simp] cells_st cells_sl cells_i cells_y cells_b cells_s cells_w
def tabN (f : Nat → Bool) : Nat → Nat
 | 0 => 0
 | k + 1 => tabN f k ||| (if f k then 2 ^ k else 0)
theorem tabN_lt (f : Nat → Bool) : ∀ k,tabN f k < 2 ^ k
 | 0 => by simp [tabN]
 | k + 1 => by
  simp only [tabN]
  have h := tabN_lt f k
  refine Nat.or_lt_two_pow ?_ ?_
  ·rw [Nat.pow_succ]; omega
  ·split
   ·rw [Nat.pow_succ]; have := Nat.pow_pos (n := k) (show 0 < 2 by omega); omega
   ·exact Nat.pow_pos (by omega)
theorem tabN_bit (f : Nat → Bool) (s : Nat) : ∀ k,(tabN f k).testBit s = (decide (s < k) && f s)
 | 0 => by simp [tabN]
 | k + 1 => by
  simp only [tabN,Nat.testBit_or,tabN_bit f s k]
  by_cases h : s = k
  ·subst h
   cases f s <;> simp
  ·have e : (if f k then 2 ^ k else 0).testBit s = false := by
    split
    ·rw [Nat.testBit_two_pow]; simp; omega
    ·simp
   rw [e]
   by_cases h1 : s < k
   ·simp [h1,show s < k + 1 by omega]
   ·simp [h1,show ¬ s < k + 1 by omega]
theorem orI_nat {a b : Nat} (ha : a < 2 ^ 62) (hb : b < 2 ^ 62) : orI (a : Int) (b : Int) = ((a ||| b : Nat) : Int) := by
 have hab : a ||| b < 2 ^ 62 := Nat.or_lt_two_pow ha hb
 unfold orI
 have e : (BitVec.ofInt 64 (a : Int) ||| BitVec.ofInt 64 (b : Int)).toNat = a ||| b := by
  rw [BitVec.toNat_or,BitVec.ofInt_natCast,BitVec.ofInt_natCast,BitVec.toNat_ofNat,BitVec.toNat_ofNat,Nat.mod_eq_of_lt (by omega),Nat.mod_eq_of_lt (by omega)]
 rw [e]
 exact wr_id (by omega) (by omega)
theorem pow5 {m : Int} (h1 : 1 ≤ m) (h5 : m ≤ 5) : 2 ≤ 2 ^ m.toNat ∧ 2 ^ m.toNat ≤ 32 ∧ ((2 ^ m.toNat : Nat) : Int) = 2 ^ m.toNat := by
 have c : m = 1 ∨ m = 2 ∨ m = 3 ∨ m = 4 ∨ m = 5 := by omega
 rcases c with rfl | rfl | rfl | rfl | rfl <;> decide
end
section
attribute [-simp] DV.cells sliceD
attribute [local simp] cells_st cells_sl cells_i cells_y cells_b cells_s cells_w
/-- 1 if f holds wherever g does below N,0 if nowhere,else -1 -/
def fo (f g : Nat → Bool) (N : Nat) : Int := if allTo (fun s => !g s || f s) N then 1 else if allTo (fun s => !g s || !f s) N then 0 else -1
theorem fo_1 {f g : Nat → Bool} {N : Nat} : fo f g N = 1 ↔ ∀ s,s < N → g s = true → f s = true := by
 unfold fo
 constructor
 ·intro h
  split at h
  ·rename_i ha
   intro s hs hg
   have := allTo_iff.1 ha s hs
   simpa [hg] using this
  ·split at h <;> cases h
 ·intro h
  rw [if_pos (allTo_iff.2 fun s hs => by
   cases hg : g s with
   | false => rfl
   | true => simp [h s hs hg])]
theorem fo_0 {f g : Nat → Bool} {N : Nat} (hne : ∃ s,s < N ∧ g s = true) : fo f g N = 0 ↔ ∀ s,s < N → g s = true → f s = false := by
 obtain ⟨s0,h0,g0⟩ := hne
 unfold fo
 constructor
 ·intro h
  split at h
  ·cases h
  ·split at h
   ·rename_i ha
    intro s hs hg
    have := allTo_iff.1 ha s hs
    simpa [hg] using this
   ·cases h
 ·intro h
  rw [if_neg,if_pos (allTo_iff.2 fun s hs => by
   cases hg : g s with
   | false => rfl
   | true => simp [h s hs hg])]
  intro ha
  have := allTo_iff.1 ha s0 h0
  simp [g0,h s0 h0 g0] at this
theorem fo_or (f g : Nat → Bool) (N : Nat) : fo f g N = 1 ∨ fo f g N = 0 ∨ fo f g N = -1 := by
 unfold fo
 split
 ·simp
 ·split <;> simp
theorem fo_b {f g : Nat → Bool} {N : Nat} (hne : ∃ s,s < N ∧ g s = true) (b : Bool) : fo f g N = bI b ↔ ∀ s,s < N → g s = true → f s = b := by
 cases b with
 | true => exact fo_1
 | false => exact fo_0 hne
/-- What the states say that agree. -/
def agB (ks : List Int) (s : Nat) : Bool := ag ks (s : Int)
theorem agB_cons (k : Int) (r : List Int) (s : Nat) : agB (k :: r) s = ((k == -1 || k == bI (s.testBit 0)) && agB r (s / 2)) := by
 unfold agB
 simp only [ag]
 have e1 : (s : Int) % 2 = bI (s.testBit 0) := by
  unfold bI
  rw [Nat.testBit_zero]
  by_cases h : s % 2 = 1
  ·simp [h]; omega
  ·simp [h]; omega
 have e2 : (s : Int) / 2 = ((s / 2 : Nat) : Int) := by omega
 rw [e1,e2]
theorem agB_some : ∀ {ks : List Int},ks.all kOk = true → ∃ s,s < 2 ^ ks.length ∧ agB ks s = true
 | [],_ => ⟨0,by simp,rfl⟩
 | k :: r,h => by
  simp only [List.all_cons,Bool.and_eq_true] at h
  obtain ⟨s,h1,h2⟩ := agB_some h.2
  have hk : -1 ≤ k ∧ k ≤ 1 := by simpa [kOk] using h.1
  have c : k = -1 ∨ k = 0 ∨ k = 1 := by omega
  have key : ∀ b : Bool,k = -1 ∨ k = bI b → ∃ s,s < 2 ^ (k :: r).length ∧ agB (k :: r) s = true := by
   intro b hb
   refine ⟨2 * s + (if b then 1 else 0),?_,?_⟩
   ·rw [List.length_cons,Nat.pow_succ]; cases b <;> simp <;> omega
   ·rw [agB_cons]
    have e1 : (2 * s + (if b then 1 else 0)) / 2 = s := by cases b <;> simp <;> omega
    have e2 : (2 * s + (if b then 1 else 0)).testBit 0 = b := by rw [Nat.testBit_zero]; cases b <;> simp <;> omega
    rw [e1,e2,h2]
    rcases hb with rfl | rfl <;> simp
  rcases c with rfl | rfl | rfl
  ·exact key true (.inl rfl)
  ·exact key false (.inr rfl)
  ·exact key true (.inr rfl)
end
section
attribute [-simp] DV.cells sliceD
attribute [local simp] cells_st cells_sl cells_i cells_y cells_b cells_s cells_w
/-- what is known of a term by what is known of its tests -/
def foT (m : Int) (ts : List T) (ks : List Int) : Int := fo (tv ts) (agB ks) (2 ^ m.toNat)
theorem ks_some {m : Int} {ks : List Int} (h : ksOk m ks = true) : ∃ s,s < 2 ^ m.toNat ∧ agB ks s = true := by
 obtain ⟨h1,h2,h3⟩ := ksOk_iff.1 h
 obtain ⟨s,q1,q2⟩ := agB_some h3
 exact ⟨s,by rw [show m.toNat = ks.length by omega]; exact q1,q2⟩
def told (m : Nat) (st so : Nat) : List Int := (List.range m).map fun k => if so.testBit k then bI (st.testBit k) else -1
theorem bI_eq1 (b : Bool) : (bI b == 1) = b := by cases b <;> rfl
end
section
attribute [-simp] DV.cells sliceD
attribute [local simp] cells_st cells_sl cells_i cells_y cells_b cells_s cells_w
def agW : List Int → Nat → BitVec 32 → BitVec 32
 | [],_,w => w
 | k :: r,i,w => agW r (i + 1) (if k = 0 then w &&& ~~~(yesW i) else if k = 1 then w &&& yesW i else w)
theorem agW_bit : ∀ {ks : List Int} {i : Nat} {w : BitVec 32} {s : Nat},ks.all kOk = true → i + ks.length ≤ 5 → s < 32 → (agW ks i w).getLsbD s = (w.getLsbD s && agB ks (s / 2 ^ i))
 | [],i,w,s,_,_,_ => by simp [agW,agB,ag]
 | k :: r,i,w,s,h,hi,hs => by
  simp only [List.all_cons,Bool.and_eq_true] at h
  simp only [List.length_cons] at hi
  have hk : -1 ≤ k ∧ k ≤ 1 := by simpa [kOk] using h.1
  simp only [agW]
  rw [agW_bit h.2 (by omega) hs,agB_cons]
  have e1 : s / 2 ^ (i + 1) = s / 2 ^ i / 2 := by rw [Nat.pow_succ,Nat.div_div_eq_div_mul]
  have e2 : (s / 2 ^ i).testBit 0 = s.testBit i := by rw [Nat.testBit_div_two_pow]; simp
  have y := yes_bit ⟨i,by omega⟩ ⟨s,hs⟩
  simp only at y
  rw [e1,e2]
  have c : k = -1 ∨ k = 0 ∨ k = 1 := by omega
  rcases c with rfl | rfl | rfl
  ·simp
  ·rw [if_pos rfl,BitVec.getLsbD_and,BitVec.getLsbD_not,y]
   cases w.getLsbD s <;> cases s.testBit i <;> simp [bI,hs]
  ·rw [if_neg (by omega),if_pos rfl,BitVec.getLsbD_and,y]
   cases w.getLsbD s <;> cases s.testBit i <;> simp [bI]
theorem yes_at {i : Nat} (h : i < 5) : ([DV.w 2863311530#32,DV.w 3435973836#32,DV.w 4042322160#32,DV.w 4278255360#32,DV.w 4294901760#32])[i]? = some (.w (yesW i)) := by
 have c : i = 0 ∨ i = 1 ∨ i = 2 ∨ i = 3 ∨ i = 4 := by omega
 rcases c with rfl | rfl | rfl | rfl | rfl <;> rfl
/-- the states that say so of a test -/
def syI (k : Nat) (b : Int) : BitVec 32 := if b = 1 then yesW k else ~~~ yesW k
theorem c_impl_statesSaying {k : Nat} (hk : k < 5) (b : Int) : call lf n_impl_statesSaying [.i k,.i b] = some (.w (syI k b),[]) := by
 have y := yes_at hk
 have k5 : (k : Int) < 5 := by omega
 rw [call_k lf n_impl_statesSaying _ (F := F_impl_statesSaying) rfl rfl]
 unfold syI
 by_cases h : b = 1
 ·have e : (b == 1) = true := by simpa using h
  simp [F_impl_statesSaying,gEnv_0,y,k5,e,h]
 ·have e : (b == 1) = false := by simpa using h
  simp [F_impl_statesSaying,gEnv_0,y,k5,e,h]
set_option maxHeartbeats 4000000 in
theorem ones_bit {s : Nat} (hs : s < 32) : (4294967295#32).getLsbD s = true := by
 have : ∀ s : _root_.Fin 32,(4294967295#32).getLsbD s.val = true := by decide +kernel
 exact this ⟨s,hs⟩
theorem agB_mod : ∀ {ks : List Int} (s : Nat),agB ks (s % 2 ^ ks.length) = agB ks s
 | [],s => rfl
 | k :: r,s => by
  rw [agB_cons,agB_cons,List.length_cons]
  have e1 : (s % 2 ^ (r.length + 1)).testBit 0 = s.testBit 0 := by rw [Nat.testBit_mod_two_pow]; simp
  have e2 : s % 2 ^ (r.length + 1) / 2 = (s / 2) % 2 ^ r.length := by rw [Nat.pow_succ,Nat.mul_comm,Nat.mod_mul_right_div_self]
  rw [e1,e2,agB_mod (ks := r) (s / 2)]
theorem tv_mod {m : Int} {ts : List T} (h : tmOk m ts = true) {s : Nat} (hs : s < 32) : tv ts (s % 2 ^ m.toNat) = tv ts s := by
 obtain ⟨h1,_,_⟩ := tmOk_iff.1 h
 obtain ⟨x,hb,_,_,htv⟩ := tv_tree h
 have hle : s % 2 ^ m.toNat < 32 := Nat.lt_of_le_of_lt (Nat.mod_le _ _) hs
 rw [htv _ hs,htv _ hle]
 refine ev_congr (m := m) (fun a ha => ?_) hb
 rw [Nat.testBit_mod_two_pow]
 have : a < m.toNat := by omega
 simp [this]
theorem and_eq_iff (A W : BitVec 32) : (W &&& A = A) ↔ ∀ s,s < 32 → A.getLsbD s = true → W.getLsbD s = true := by
 constructor
 ·intro h s hs ha
  have := congrArg (fun v => BitVec.getLsbD v s) h
  simp only [BitVec.getLsbD_and,ha,Bool.and_true] at this
  exact this
 ·intro h
  apply BitVec.eq_of_getLsbD_eq
  intro s hs
  rw [BitVec.getLsbD_and]
  cases ha : A.getLsbD s with
  | false => simp
  | true => simp [h s hs ha]
theorem and_zero_iff (A W : BitVec 32) : (W &&& A = 0#32) ↔ ∀ s,s < 32 → A.getLsbD s = true → W.getLsbD s = false := by
 constructor
 ·intro h s hs ha
  have := congrArg (fun v => BitVec.getLsbD v s) h
  simp only [BitVec.getLsbD_and,ha,Bool.and_true,BitVec.getLsbD_zero] at this
  exact this
 ·intro h
  apply BitVec.eq_of_getLsbD_eq
  intro s hs
  rw [BitVec.getLsbD_and,BitVec.getLsbD_zero]
  cases ha : A.getLsbD s with
  | false => simp
  | true => simp [h s hs ha]
theorem ag_bits {m : Int} {ts : List T} {ks : List Int} (h1 : tmOk m ts = true) (h2 : ksOk m ks = true) (b : Bool) :
  (∀ s,s < 32 → (agW ks 0 (4294967295#32)).getLsbD s = true → (tsW ts).getLsbD s = b) ↔ foT m ts ks = bI b := by
 obtain ⟨h3,_,_⟩ := tmOk_iff.1 h1
 obtain ⟨_,k2,k3⟩ := ksOk_iff.1 h2
 obtain ⟨p1,p2,p3⟩ := pow5 h3.1 h3.2
 have hl : m.toNat = ks.length := by omega
 have key : ∀ s,s < 32 → (agW ks 0 (4294967295#32)).getLsbD s = agB ks s := fun s hs => by
  rw [agW_bit k3 (by omega) hs,ones_bit hs]; simp
 unfold foT
 rw [fo_b (ks_some h2)]
 constructor
 ·intro h s hs hg
  exact h s (by omega) (by rw [key s (by omega)]; exact hg)
 ·intro h s hs hg
  rw [key s hs,← agB_mod,← hl] at hg
  have := h (s % 2 ^ m.toNat) (Nat.mod_lt _ (by omega)) hg
  rw [tv_mod h1 hs] at this
  exact this
/-- the value among some states -/
def vaW (v w : BitVec 32) : Int := if v &&& w == w then 1 else if v &&& w == 0#32 then 0 else -1
theorem c_impl_valueAmong (v w : BitVec 32) : call lf n_impl_valueAmong [.w v,.w w] = some (.i (vaW v w),[]) := by
 rw [call_k lf n_impl_valueAmong _ (F := F_impl_valueAmong) rfl rfl]
 unfold vaW
 cases h1 : (v &&& w == w) with
 | true => simp [F_impl_valueAmong,h1]
 | false =>
  cases h2 : (v &&& w == 0#32) with
  | true => simp [F_impl_valueAmong,h1,h2]
  | false => simp [F_impl_valueAmong,h1,h2]
theorem vaW_foT {m : Int} {ts : List T} {ks : List Int} (h1 : tmOk m ts = true) (h2 : ksOk m ks = true) : vaW (tsW ts) (agW ks 0 (4294967295#32)) = foT m ts ks := by
 have a1 := ag_bits h1 h2 true
 have a0 := ag_bits h1 h2 false
 rw [← and_eq_iff] at a1
 rw [← and_zero_iff] at a0
 unfold vaW
 generalize agW ks 0 (4294967295#32) = A at *
 rcases fo_or (tv ts) (agB ks) (2 ^ m.toNat) with h | h | h
 ·have e : foT m ts ks = 1 := h
  rw [if_pos (by rw [a1.2 e]; exact beq_self_eq_true _),e]
 ·have e : foT m ts ks = 0 := h
  have q := a0.2 e
  rw [if_neg,if_pos (by rw [q]; exact beq_self_eq_true _),e]
  intro hq
  have := a1.1 (by simpa using hq)
  rw [e] at this; cases this
 ·have e : foT m ts ks = -1 := h
  rw [if_neg,if_neg,e]
  ·intro hq
   have := a0.1 (by simpa using hq)
   rw [e] at this; cases this
  ·intro hq
   have := a1.1 (by simpa using hq)
   rw [e] at this; cases this
end
section
attribute [-simp] DV.cells sliceD
attribute [local simp] cells_st cells_sl cells_i cells_y cells_b cells_s cells_w
theorem div_bI (a s : Nat) : (a : Int) / 2 ^ s % 2 = bI (a.testBit s) := by
 unfold bI
 rw [Nat.testBit_eq_decide_div_mod_eq]
 have : (a : Int) / 2 ^ s % 2 = ((a / 2 ^ s % 2 : Nat) : Int) := by simp
 rw [this]
 by_cases h : a / 2 ^ s % 2 = 1
 ·simp [h]
 ·have : a / 2 ^ s % 2 = 0 := by omega
  simp [this]
theorem c_impl_hasTest (so k : Nat) (hk : k ≤ 40) : call lf n_impl_hasTest [.i so,.i k] = some (.b (so.testBit k),[]) := by
 rw [call_k lf n_impl_hasTest _ (F := F_impl_hasTest) rfl rfl]
 have ni : ¬ (k : Int) < 0 := by omega
 have e : andI (shrI (so : Int) (k : Int)) 1 = bI (so.testBit k) := by
  rw [bit_and,shr1 (by omega) (by omega),Int.toNat_natCast,div_bI]
 simp [F_impl_hasTest,ni,e,bI_eq1]
end
section
theorem c_alive : call lf n_laws_alive [] = some (.b true,[]) := by
 rw [call_k lf n_laws_alive _ (F := F_laws_alive) rfl rfl]
 have a := c_impl_TestsOk [(1,1)] (by simp)
 have b := c_impl_TestsOk [(0,0)] (by simp)
 have a1 : tsOk [(1,1)] = true := by decide
 have b1 : tsOk [(0,0)] = false := by decide
 rw [a1] at a
 rw [b1] at b
 simp [e2] at a b
 simp [F_laws_alive,a,b]
end
section
theorem agB_iff : ∀ {ks : List Int} {s : Nat},agB ks s = true ↔ ∀ k v,ks[k]? = some v → v = -1 ∨ v = bI (s.testBit k)
 | [],s => by simp [agB,ag]
 | a :: r,s => by
  rw [agB_cons]
  simp only [Bool.and_eq_true,Bool.or_eq_true,beq_iff_eq]
  rw [agB_iff (ks := r)]
  constructor
  ·rintro ⟨h1,h2⟩ k v hv
   cases k with
   | zero => simp at hv; subst hv; exact h1
   | succ k => simp at hv; have := h2 k v hv; rw [Nat.testBit_succ]; exact this
  ·intro h
   refine ⟨h 0 a rfl,fun k v hv => ?_⟩
   have := h (k + 1) v (by simpa using hv)
   rw [Nat.testBit_succ] at this
   exact this
theorem bI_inj {a b : Bool} : bI a = bI b ↔ a = b := by cases a <;> cases b <;> simp [bI]
theorem eq_of_low {m a b : Nat} (ha : a < 2 ^ m) (hb : b < 2 ^ m) (h : ∀ k,k < m → a.testBit k = b.testBit k) : a = b := by
 apply Nat.eq_of_testBit_eq
 intro k
 by_cases hk : k < m
 ·exact h k hk
 ·rw [Nat.testBit_lt_two_pow (Nat.lt_of_lt_of_le ha (Nat.pow_le_pow_right (by omega) (by omega))),Nat.testBit_lt_two_pow (Nat.lt_of_lt_of_le hb (Nat.pow_le_pow_right (by omega) (by omega)))]
end
section
attribute [-simp] DV.cells
attribute [local simp] cells_st cells_sl cells_i cells_y cells_b cells_s cells_w
def twP (ts : List T) (t : List T) (s : Nat) : Int := if tv t s then wt ts s else 0
def tw (ts t : List T) (n : Nat) : Int := sumTo (twP ts t) n
def twOf (ts t : List T) : Int := if tsOk ts && tmOk ts.length t then tw ts t (2 ^ ts.length) else -1
/-- the weights of some states together -/
def wsW (ts : List T) (v : BitVec 32) (n : Nat) : Int := sumTo (fun s => if v.getLsbD s then wt ts s else 0) n
theorem wsW_succ (ts : List T) (v : BitVec 32) (n : Nat) : wsW ts v (n + 1) = wsW ts v n + if v.getLsbD n then wt ts n else 0 := rfl
theorem wsW_bound {ts : List T} (h : tsOk ts = true) (v : BitVec 32) (n : Nat) (hn : n ≤ 32) : 0 ≤ wsW ts v n ∧ wsW ts v n ≤ 1000000 := by
 have h' := tsOk_iff.1 h
 have := sumTo_nonneg (f := fun (s : Nat) => if v.getLsbD s then wt ts s else 0) (B := 7776) (by omega) n (fun k _ => by
  have := wt_le h'.2 (by omega) (k : Int)
  split <;> omega)
 unfold wsW; omega
theorem wsW_tw (ts t : List T) (n : Nat) : wsW ts (tsW t) n = tw ts t n := rfl
set_option maxHeartbeats 4000000 in
theorem c_impl_weightOfStates {ts : List T} (h1 : tsOk ts = true) (v : BitVec 32) : call lf n_impl_weightOfStates [.sl 0 (ts.map e2),.w v] = some (.i (wsW ts v (2 ^ ts.length)),[]) := by
 have h1' := tsOk_iff.1 h1
 obtain ⟨p1,p2,p3⟩ := pow5 (m := ts.length) (by omega) (by omega)
 simp only [Int.toNat_natCast] at p1 p2 p3
 have hb : (ts.length : Int) < 1099511627776 := by omega
 have C4 := c_impl_statesOf ts.length (by omega) (by omega)
 simp only [Int.toNat_natCast] at C4
 have L := loop_count (lf := lf) (L := F_impl_weightOfStates_L0) (2 ^ ts.length) (fun i => ⟨[(0,.sl 0 (ts.map e2)),(1,.w v),(5,.i (wsW ts v i)),(9,.i (2 ^ ts.length)),(10,.i i)],[]⟩) (x := .exit 0) (R := ⟨[(0,.sl 0 (ts.map e2)),(1,.w v),(5,.i (wsW ts v (2 ^ ts.length))),(9,.i (2 ^ ts.length)),(10,.i (2 ^ ts.length))],[]⟩) (fun i hi => by
  have hi' : (i : Int) < 2 ^ ts.length := by omega
  have H := c_impl_hasState v i (by omega) (by omega)
  rw [Int.toNat_natCast] at H
  have W := c_impl_WeightOf ts i hb
  rw [wtOf_of h1 (by omega) hi'] at W
  have b1 := wsW_bound h1 v i (by omega)
  have b2 := wt_le h1'.2 (by omega) (i : Int)
  have w1 : wr ((i : Int) + 1) = i + 1 := wr_id (by omega) (by omega)
  have w2 : wr (wsW ts v i + wt ts i) = wsW ts v i + wt ts i := wr_id (by omega) (by omega)
  have e := wsW_succ ts v i
  simp only [e]
  cases hv : v.getLsbD i with
  | false =>
   rw [hv] at H
   simp [F_impl_weightOfStates_L0,hi',H,w1]
  | true =>
   rw [hv] at H
   simp [F_impl_weightOfStates_L0,hi',H,W,w1,w2]) (by
  simp [F_impl_weightOfStates_L0]) (by simp)
 have L' : ex lf F_impl_weightOfStates_W0 ⟨[(0,.sl 0 (ts.map e2)),(1,.w v),(5,.i 0),(9,.i (2 ^ ts.length)),(10,.i 0)],[]⟩ = some (.exit 0,⟨[(0,.sl 0 (ts.map e2)),(1,.w v),(5,.i (wsW ts v (2 ^ ts.length))),(9,.i (2 ^ ts.length)),(10,.i (2 ^ ts.length))],[]⟩) := L
 rw [call_k lf n_impl_weightOfStates _ (F := F_impl_weightOfStates) rfl rfl]
 simp [F_impl_weightOfStates,C4,L']
theorem c_impl_TrueWeight (ts t : List T) (hb : (ts.length : Int) < 1099511627776) (hc : (t.length : Int) < 1099511627776) : call lf n_impl_TrueWeight [.sl 0 (ts.map e2),.sl 0 (t.map e2)] = some (.i (twOf ts t),[]) := by
 rw [call_k lf n_impl_TrueWeight _ (F := F_impl_TrueWeight) rfl rfl]
 have C1 := c_impl_TestsOk ts hb
 have C2 := c_impl_TermOk ts.length t hc
 unfold twOf
 cases h1 : tsOk ts with
 | false => rw [h1] at C1; simp [F_impl_TrueWeight,C1]
 | true =>
  rw [h1] at C1
  cases h2 : tmOk ts.length t with
  | false => rw [h2] at C2; simp [F_impl_TrueWeight,C1,C2]
  | true =>
   rw [h2] at C2
   have C3 := c_impl_trueStates h2
   have C4 := c_impl_weightOfStates h1 (tsW t)
   rw [wsW_tw] at C4
   simp [F_impl_TrueWeight,C1,C2,C3,C4]
end
section
attribute [-simp] DV.cells
attribute [local simp] cells_st cells_sl cells_i cells_y cells_b cells_s cells_w
abbrev WP := List UInt8 × Int
def eWP (p : WP) : DV := .st [.s p.1,.i p.2]
def brk (least : Int) (p : WP) : List UInt8 := if p.2 ≥ least then [40] ++ p.1 ++ [41] else p.1
def mkT (t : T) (ps : List WP) : WP :=
 (if t.1 = 0 then [(97 + t.2).toNat.toUInt8] else if t.1 = 1 then [33] ++ brk 2 (ps.getD 0 ([],0)) else if t.1 = 2 then brk 3 (ps.getD 0 ([],0)) ++ [38] ++ brk 2 (ps.getD 1 ([],0)) else (ps.getD 0 ([],0)).1 ++ [124] ++ brk 3 (ps.getD 1 ([],0)),t.1)
theorem brk_len (l : Int) (p : WP) : (brk l p).length ≤ p.1.length + 2 := by
 unfold brk
 split
 ·simp
 ·omega
theorem c_impl_bracketedFrom (l : Int) (p : WP) (hp : p.1.length ≤ 100000) : call lf n_impl_bracketedFrom [.i l,eWP p] = some (.s (brk l p),[]) := by
 rw [call_k lf n_impl_bracketedFrom _ (F := F_impl_bracketedFrom) rfl rfl]
 have b1 : 1 + p.1.length ≤ bound := by unfold bound; omega
 have b2 : p.1.length + 1 + 1 ≤ bound := by unfold bound; omega
 unfold brk eWP
 by_cases h : p.2 ≥ l
 ·simp [F_impl_bracketedFrom,h,b1,b2]
 ·simp [F_impl_bracketedFrom,h]
theorem i32s : Go.IntKind.i32.wrap 97 = 97 ∧ Go.IntKind.i32.wrap 98 = 98 ∧ Go.IntKind.i32.wrap 99 = 99 ∧ Go.IntKind.i32.wrap 100 = 100 ∧ Go.IntKind.i32.wrap 101 = 101 := by decide
theorem c_impl_letterOf {a : Int} (h : 0 ≤ a ∧ a < 5) : call lf n_impl_letterOf [.i a] = some (.s [(97 + a).toNat.toUInt8],[]) := by
 have c5 : a = 0 ∨ a = 1 ∨ a = 2 ∨ a = 3 ∨ a = 4 := by omega
 have v0 : wr 97 = 97 := wr_id (by omega) (by omega)
 have v1 : wr 98 = 98 := wr_id (by omega) (by omega)
 have v2 : wr 99 = 99 := wr_id (by omega) (by omega)
 have v3 : wr 100 = 100 := wr_id (by omega) (by omega)
 have v4 : wr 101 = 101 := wr_id (by omega) (by omega)
 rw [call_k lf n_impl_letterOf _ (F := F_impl_letterOf) rfl rfl]
 rcases c5 with rfl | rfl | rfl | rfl | rfl <;> simp [F_impl_letterOf,v0,v1,v2,v3,v4,i32s]
set_option maxHeartbeats 4000000 in
theorem c_impl_writePart (k a : Int) (ps : List WP) (hlen : ∀ p ∈ ps,p.1.length ≤ 10000) (h : (k = 0 ∧ 0 ≤ a ∧ a < 5) ∨ (k = 1 ∧ 1 ≤ ps.length) ∨ ((k = 2 ∨ k = 3) ∧ 2 ≤ ps.length)) :
  call lf n_impl_writePart [.st [.i k,.i a],.sl 0 (ps.map eWP)] = some (eWP (mkT (k,a) ps),[]) := by
 rw [call_k lf n_impl_writePart _ (F := F_impl_writePart) rfl rfl]
 rcases h with ⟨rfl,h0,h5⟩ | ⟨rfl,h1⟩ | ⟨hk,h2⟩
 ·have C := c_impl_letterOf (a := a) ⟨h0,h5⟩
  simp [F_impl_writePart,mkT,eWP,C]
 ·obtain ⟨x,xs,rfl⟩ : ∃ x xs,ps = x :: xs := by cases ps with | nil => simp at h1 | cons x xs => exact ⟨x,xs,rfl⟩
  have l1 := hlen x (by simp)
  have B := c_impl_bracketedFrom 2 x (by omega)
  have b1 : 1 + (brk 2 x).length ≤ bound := by have := brk_len 2 x; unfold bound; omega
  unfold eWP at B
  simp [F_impl_writePart,mkT,atI,eWP,B,b1]
 ·obtain ⟨x,y,xs,rfl⟩ : ∃ x y xs,ps = x :: y :: xs := by
   match ps,h2 with
   | x :: y :: xs,_ => exact ⟨x,y,xs,rfl⟩
  have l1 := hlen x (by simp)
  have l2 := hlen y (by simp)
  have B := c_impl_bracketedFrom 2 y (by omega)
  have B3 := c_impl_bracketedFrom 3 y (by omega)
  have B4 := c_impl_bracketedFrom 3 x (by omega)
  have q1 := brk_len 2 y
  have q2 := brk_len 3 y
  have q3 := brk_len 3 x
  have b1 : (brk 3 x).length + 1 ≤ bound := by unfold bound; omega
  have b2 : (brk 3 x).length + ((brk 2 y).length + 1) ≤ bound := by unfold bound; omega
  have b3 : x.1.length + 1 ≤ bound := by unfold bound; omega
  have b4 : x.1.length + ((brk 3 y).length + 1) ≤ bound := by unfold bound; omega
  have b5 : (brk 3 x).length + 1 + (brk 2 y).length ≤ bound := by unfold bound; omega
  have b6 : x.1.length + 1 + (brk 3 y).length ≤ bound := by unfold bound; omega
  unfold eWP at B B3 B4
  rcases hk with rfl | rfl <;> simp [F_impl_writePart,mkT,atI,eWP,B,B3,B4,b1,b2,b3,b4,b5,b6]
end
section
attribute [-simp] DV.cells
attribute [local simp] cells_st cells_sl cells_i cells_y cells_b cells_s cells_w
/-- the stack lies in front of what was there -/
def stG (n k : Int) (es : List DV) (N : Nat) (g : List DV) (st : List WP) : LS :=
 ⟨[(1,.fn n_impl_writePart []),(4,.oad 2064 1 0 0),(5,.own 2576 N 0 st.length),(10,.sl 0 es),(11,.i n),(12,.i k)],[(2064,[.st [.s [],.i 0]]),(2576,st.map eWP ++ g)]⟩
set_option maxHeartbeats 4000000 in
theorem l_foldT0 (n k : Int) (es : List DV) (N : Nat) (g : List DV) (st : List WP) (hN : N = st.length + g.length) (hl : st.length ≤ 1000) (a : Int) (h0 : 0 ≤ a) (h5 : a < 5) (hk : k < n) (hat : atI es k = some (.st [.i 0,.i a])) (hw : wr (k + 1) = k + 1) :
  ∃ N' g',N' = (stepG mkT st (0,a)).length + g'.length ∧ ex lf F_impl_foldTerm_impl_writtenPart_L0 (stG n k es N g st) = some (.normal,stG n (k + 1) es N' g' (stepG mkT st (0,a))) := by
 have C := c_impl_writePart 0 a [] (by simp) (.inl ⟨rfl,h0,h5⟩)
 have P := c_impl_partsTaken 0
 have w1 : wr (st.length : Int) = st.length := wr_id (by omega) (by omega)
 have b1 : st.length + 1 ≤ bound := by unfold bound; omega
 rw [stepG_0]
 simp at C P
 simp only [eWP] at C
 cases g with
 | nil =>
  refine ⟨st.length + 1,[],by simp,?_⟩
  have hN' : N = st.length := by simpa using hN
  subst hN'
  unfold stG
  simp [F_impl_foldTerm_impl_writtenPart_L0,eWP,hk,hat,hw,C,P,w1,b1]
 | cons y g =>
  refine ⟨N,g,by simp at hN ⊢; omega,?_⟩
  have hL : (st.map eWP ++ y :: g).length = N := by rw [hN]; simp
  have t1 : List.take st.length (st.map eWP ++ y :: g) = st.map eWP := by rw [List.take_append_of_le_length (by simp),List.take_of_length_le (by simp)]
  have t2 : List.drop (st.length + 1) (st.map eWP ++ y :: g) = g := by rw [List.drop_append]; simp
  have n1 : st.length < N := by rw [hN]; simp
  have n2 : st.length + 1 ≤ N := by omega
  have n3 : ¬ st.length = N := by omega
  have n4 : st.length ≤ N := by omega
  have t4 : List.drop st.length (st.map eWP) = [] := List.drop_of_length_le (by simp)
  unfold stG
  generalize st.map eWP ++ y :: g = L at *
  simp [eWP,F_impl_foldTerm_impl_writtenPart_L0,hk,hat,hw,C,P,w1,b1,hL,t1,t2,t4,n1,n2,n3,n4]
set_option maxHeartbeats 4000000 in
theorem l_foldT1 (n k : Int) (es : List DV) (N : Nat) (g : List DV) (st : List WP) (x : WP) (hx : x.1.length ≤ 10000) (hN : N = (st ++ [x]).length + g.length) (hl : st.length ≤ 1000) (a : Int) (hk : k < n) (hat : atI es k = some (.st [.i 1,.i a])) (hw : wr (k + 1) = k + 1) :
  ∃ N' g',N' = (stepG mkT (st ++ [x]) (1,a)).length + g'.length ∧ ex lf F_impl_foldTerm_impl_writtenPart_L0 (stG n k es N g (st ++ [x])) = some (.normal,stG n (k + 1) es N' g' (stepG mkT (st ++ [x]) (1,a))) := by
 have C := c_impl_writePart 1 a [x] (by simpa using hx) (.inr (.inl ⟨rfl,by simp⟩))
 have P := c_impl_partsTaken 1
 have w1 : wr (st.length : Int) = st.length := wr_id (by omega) (by omega)
 have b1 : st.length + 1 ≤ bound := by unfold bound; omega
 rw [stepG_1]
 simp at C P hN
 simp only [eWP] at C
 refine ⟨N,g,by simp; omega,?_⟩
 have hL : ((st ++ [x]).map eWP ++ g).length = N := by rw [hN]; simp; omega
 have t1 : List.take st.length ((st ++ [x]).map eWP ++ g) = st.map eWP := by rw [List.map_append,List.append_assoc,List.take_append_of_le_length (by simp),List.take_of_length_le (by simp)]
 have t2 : List.drop (st.length + 1) ((st ++ [x]).map eWP ++ g) = g := by rw [List.drop_append]; simp
 have t3 : List.drop st.length (List.take (st.length + 1) ((st ++ [x]).map eWP ++ g)) = [eWP x] := by
  rw [List.take_append_of_le_length (by simp),List.take_of_length_le (by simp),List.map_append,List.drop_append]; simp
 have n1 : st.length < N := by omega
 have n2 : st.length + 1 ≤ N := by omega
 have n3 : ¬ st.length = N := by omega
 have n4 : st.length ≤ N := by omega
 have l1 : (st.length : Int) ≤ st.length + 1 := by omega
 unfold stG
 generalize (st ++ [x]).map eWP ++ g = L at *
 simp only [eWP] at t3
 simp [eWP,F_impl_foldTerm_impl_writtenPart_L0,hk,hat,hw,C,P,w1,b1,hL,t1,t2,t3,n1,n2,n3,n4,l1]
set_option maxHeartbeats 4000000 in
theorem l_foldT2 (n k : Int) (es : List DV) (N : Nat) (g : List DV) (st : List WP) (x y : WP) (hx : x.1.length ≤ 10000) (hy : y.1.length ≤ 10000) (hN : N = (st ++ [x,y]).length + g.length) (hl : st.length ≤ 1000) (c a : Int) (hc : c = 2 ∨ c = 3) (hk : k < n) (hat : atI es k = some (.st [.i c,.i a])) (hw : wr (k + 1) = k + 1) :
  ∃ N' g',N' = (stepG mkT (st ++ [x,y]) (c,a)).length + g'.length ∧ ex lf F_impl_foldTerm_impl_writtenPart_L0 (stG n k es N g (st ++ [x,y])) = some (.normal,stG n (k + 1) es N' g' (stepG mkT (st ++ [x,y]) (c,a))) := by
 have C := c_impl_writePart c a [x,y] (by simp; exact ⟨hx,hy⟩) (.inr (.inr ⟨hc,by simp⟩))
 have P := c_impl_partsTaken c
 rw [if_neg (by omega),if_neg (by omega)] at P
 have w1 : wr (st.length : Int) = st.length := wr_id (by omega) (by omega)
 have b1 : st.length + 1 ≤ bound := by unfold bound; omega
 rw [stepG_2 _ _ _ _ _ _ hc]
 simp at C hN
 simp only [eWP] at C
 refine ⟨N,eWP y :: g,by simp; omega,?_⟩
 have hL : ((st ++ [x,y]).map eWP ++ g).length = N := by rw [hN]; simp; omega
 have t1 : List.take st.length ((st ++ [x,y]).map eWP ++ g) = st.map eWP := by rw [List.map_append,List.append_assoc,List.take_append_of_le_length (by simp),List.take_of_length_le (by simp)]
 have t2 : List.drop (st.length + 1) ((st ++ [x,y]).map eWP ++ g) = eWP y :: g := by
  rw [List.map_append,List.append_assoc,List.drop_append]; simp
 have t3 : List.drop st.length (List.take (st.length + 2) ((st ++ [x,y]).map eWP ++ g)) = [eWP x,eWP y] := by
  rw [List.take_append_of_le_length (by simp),List.take_of_length_le (by simp),List.map_append,List.drop_append]; simp
 have n1 : st.length < N := by omega
 have n2 : st.length + 1 ≤ N := by omega
 have n3 : ¬ st.length = N := by omega
 have n4 : st.length ≤ N := by omega
 have n5 : st.length + 2 ≤ N := by omega
 have l1 : (st.length : Int) ≤ st.length + 2 := by omega
 have tn : ((st.length : Int) + 2).toNat = st.length + 2 := by omega
 unfold stG
 generalize (st ++ [x,y]).map eWP ++ g = L at *
 simp only [eWP] at t2 t3
 simp [eWP,F_impl_foldTerm_impl_writtenPart_L0,hk,hat,hw,C,P,w1,b1,hL,t1,t2,t3,n1,n2,n3,n4,n5,l1,tn]
def sumL (st : List WP) : Nat := (st.map fun p => p.1.length).sum
theorem sumL_app (a b : List WP) : sumL (a ++ b) = sumL a + sumL b := by simp [sumL]
theorem sumL_0 (st : List WP) (a : Int) : sumL (stepG mkT st (0,a)) ≤ sumL st + 5 := by
 rw [stepG_0,sumL_app]
 have : sumL [mkT (0,a) []] = 1 := by simp [sumL,mkT]
 omega
theorem sumL_1 (st : List WP) (x : WP) (a : Int) : sumL (stepG mkT (st ++ [x]) (1,a)) ≤ sumL (st ++ [x]) + 5 := by
 rw [stepG_1,sumL_app,sumL_app]
 have e : sumL [mkT (1,a) [x]] = 1 + (brk 2 x).length := by simp [sumL,mkT]; omega
 have e' : sumL [x] = x.1.length := by simp [sumL]
 have := brk_len 2 x
 omega
theorem sumL_2 (st : List WP) (x y : WP) (c a : Int) (hc : c = 2 ∨ c = 3) : sumL (stepG mkT (st ++ [x,y]) (c,a)) ≤ sumL (st ++ [x,y]) + 5 := by
 rw [stepG_2 _ _ _ _ _ _ hc,sumL_app,sumL_app]
 have e' : sumL [x,y] = x.1.length + y.1.length := by simp [sumL]
 have q1 := brk_len 2 y
 have q2 := brk_len 3 y
 have q3 := brk_len 3 x
 rcases hc with rfl | rfl
 ·have e : sumL [mkT (2,a) [x,y]] = (brk 3 x).length + 1 + (brk 2 y).length := by simp [sumL,mkT]; omega
  omega
 ·have e : sumL [mkT (3,a) [x,y]] = x.1.length + 1 + (brk 3 y).length := by simp [sumL,mkT]; omega
  omega
theorem l_foldT (m n : Int) (hm : m ≤ 5) (hb : n < 1000000) (es : List DV) : ∀ (rest : List T) (k p q : Int) (st : List WP) (N : Nat) (g : List DV),N = st.length + g.length → 0 ≤ k → k + rest.length = n → es.drop k.toNat = rest.map e2 → (st.length : Int) = p → runM m p rest = some q → st.length + rest.length ≤ 1000 → sumL st + 5 * rest.length ≤ 10000 →
  ∃ N' g',N' = (rest.foldl (stepG mkT) st).length + g'.length ∧ ex lf F_impl_foldTerm_impl_writtenPart_W0 (stG n k es N g st) = some (.exit 0,stG n n es N' g' (rest.foldl (stepG mkT) st))
 | [],k,p,q,st,N,g,hN,h0,hn,hd,hp,hr,hl,hS => by
  refine ⟨N,g,hN,?_⟩
  rw [w_impl_foldTerm_impl_writtenPart_0]
  have hk : k = n := by simpa using hn
  subst hk
  unfold stG
  simp [F_impl_foldTerm_impl_writtenPart_L0]
 | t :: rest,k,p,q,st,N,g,hN,h0,hn,hd,hp,hr,hl,hS => by
  obtain ⟨s1,s2,s3,s4,s5,s6⟩ := stp (es := es) (xs := rest.map e2) (x := e2 t) (k := k) (n := n) h0 (by simpa using hn) (by omega) (by simpa using hd)
  simp only [List.length_cons] at hl hS
  have hmk := hr
  simp only [runM] at hr
  cases hm' : mkS m p t with
  | none => rw [hm'] at hr; cases hr
  | some p1 =>
   rw [hm'] at hr
   simp only at hr
   obtain ⟨c,a⟩ := t
   simp only [e2] at s2
   have go : (∃ N1 g1,N1 = (stepG mkT st (c,a)).length + g1.length ∧ ex lf F_impl_foldTerm_impl_writtenPart_L0 (stG n k es N g st) = some (.normal,stG n (k + 1) es N1 g1 (stepG mkT st (c,a)))) → ((stepG mkT st (c,a)).length : Int) = p1 → (stepG mkT st (c,a)).length ≤ st.length + 1 → sumL (stepG mkT st (c,a)) ≤ sumL st + 5 →
     ∃ N' g',N' = (((c,a) :: rest).foldl (stepG mkT) st).length + g'.length ∧ ex lf F_impl_foldTerm_impl_writtenPart_W0 (stG n k es N g st) = some (.exit 0,stG n n es N' g' (((c,a) :: rest).foldl (stepG mkT) st)) := by
    rintro ⟨N1,g1,hN1,h1⟩ h2 h3 h4
    obtain ⟨N',g',q1,q2⟩ := l_foldT m n hm hb es rest (k + 1) p1 q (stepG mkT st (c,a)) N1 g1 hN1 s4 (by simpa using s5) s6 h2 hr (by omega) (by omega)
    refine ⟨N',g',q1,?_⟩
    rw [w_impl_foldTerm_impl_writtenPart_0,h1]
    exact q2
   unfold mkS at hm'
   simp only at hm'
   split at hm'
   ·rename_i hc
    subst hc
    split at hm'
    ·rename_i ha
     injection hm' with hm'
     exact go (l_foldT0 n k es N g st hN (by omega) a ha.1 (by omega) s1 s2 s3) (by rw [stepG_0]; simp; omega) (by rw [stepG_0]; simp) (sumL_0 _ _)
    ·cases hm'
   ·split at hm'
    ·rename_i _ hc
     subst hc
     split at hm'
     ·rename_i ha
      injection hm' with hm'
      obtain ⟨r,x,rfl⟩ := last1 (l := st) (by omega)
      have hl' := hl
      simp only [List.length_append,List.length_singleton] at hl hp
      exact go (l_foldT1 n k es N g r x (by rw [sumL_app] at hS; simp [sumL] at hS; omega) hN (by omega) a s1 s2 s3) (by rw [stepG_1]; simp; omega) (by rw [stepG_1]; simp) (sumL_1 _ _ _)
     ·cases hm'
    ·split at hm'
     ·rename_i _ _ hc
      split at hm'
      ·rename_i ha
       injection hm' with hm'
       obtain ⟨r,x,y,rfl⟩ := last2 (l := st) (by omega)
       simp only [List.length_append,List.length_cons,List.length_nil] at hl hp
       exact go (l_foldT2 n k es N g r x y (by rw [sumL_app] at hS; simp [sumL] at hS; omega) (by rw [sumL_app] at hS; simp [sumL] at hS; omega) hN (by omega) c a hc s1 s2 s3) (by rw [stepG_2 _ _ _ _ _ _ hc]; simp; omega) (by rw [stepG_2 _ _ _ _ _ _ hc]; simp) (sumL_2 _ _ _ _ _ hc)
      ·cases hm'
     ·cases hm'
theorem c_impl_foldTerm_WP {m : Int} {ts : List T} (h : tmOk m ts = true) {x : Tm} (hf : ts.foldl (stepG mkT) [] = [valG mkT x]) : call lf n_impl_foldTerm_impl_writtenPart [.sl 0 (ts.map e2),.fn n_impl_writePart []] = some (eWP (valG mkT x),[]) := by
 obtain ⟨h1,h2,h3⟩ := tmOk_iff.1 h
 obtain ⟨N',g',hN',L⟩ := l_foldT m ts.length h1.2 (by omega) (ts.map e2) ts 0 0 1 [] 0 [] rfl (Int.le_refl _) (by simp) (by simp) rfl h3 (by simp; omega) (by simp [sumL]; omega)
 rw [hf] at L hN'
 rw [call_k lf n_impl_foldTerm_impl_writtenPart _ (F := F_impl_foldTerm_impl_writtenPart) rfl rfl]
 unfold stG at L
 generalize valG mkT x = v at *
 simp [eWP] at L hN'
 have hL : g'.length + 1 = N' := by omega
 have n1 : 1 ≤ N' := by omega
 simp [F_impl_foldTerm_impl_writtenPart,L,hL,n1,eWP]
end
section
attribute [-simp] DV.cells sliceD
attribute [local simp] cells_st cells_sl cells_i cells_y cells_b cells_s cells_w
def lastK : Tm → Int
 | .tst _ => 0
 | .neg _ => 1
 | .and _ _ => 2
 | .or _ _ => 3
def txt : Tm → List UInt8
 | .tst a => [(97 + (a : Int)).toNat.toUInt8]
 | .neg x => [33] ++ brk 2 (txt x,lastK x)
 | .and x y => brk 3 (txt x,lastK x) ++ [38] ++ brk 2 (txt y,lastK y)
 | .or x y => txt x ++ [124] ++ brk 3 (txt y,lastK y)
theorem val_txt : ∀ x : Tm,valG mkT x = (txt x,lastK x)
 | .tst a => by simp [valG,mkT,txt,lastK]
 | .neg x => by simp [valG,mkT,txt,lastK,val_txt x]
 | .and x y => by simp [valG,mkT,txt,lastK,val_txt x,val_txt y]
 | .or x y => by simp [valG,mkT,txt,lastK,val_txt x,val_txt y]
def ttOf (m : Int) (ts : List T) : List UInt8 := if tmOk m ts then ((ts.foldl (stepG mkT) []).headD ([],0)).1 else []
theorem tt_tree {m : Int} {ts : List T} (h : tmOk m ts = true) : ∃ x,tb m x ∧ flt x = ts ∧ ttOf m ts = txt x ∧ ts.foldl (stepG mkT) [] = [valG mkT x] := by
 obtain ⟨x,h1,h2,h3⟩ := tm_tree h
 refine ⟨x,h1,h2,?_,h3 _ _⟩
 unfold ttOf
 rw [if_pos h,h3,val_txt]; rfl
theorem c_impl_TermText (m : Int) (ts : List T) (hb : (ts.length : Int) < 1099511627776) : call lf n_impl_TermText [.i m,.sl 0 (ts.map e2)] = some (.s (ttOf m ts),[]) := by
 rw [call_k lf n_impl_TermText _ (F := F_impl_TermText) rfl rfl]
 have C := c_impl_TermOk m ts hb
 cases h : tmOk m ts with
 | false =>
  rw [h] at C
  have e : ttOf m ts = [] := by unfold ttOf; rw [h]; rfl
  simp [F_impl_TermText,C,e]
 | true =>
  rw [h] at C
  obtain ⟨x,h1,h2,h3,h4⟩ := tt_tree h
  have W := c_impl_foldTerm_WP h h4
  rw [val_txt] at W
  simp only [eWP] at W
  rw [h3]
  simp [F_impl_TermText,C,W]
end
section
attribute [-simp] DV.cells
attribute [local simp] cells_st cells_sl cells_i cells_y cells_b cells_s cells_w
abbrev PR := Option (List T × List UInt8)
def rowL (part : List UInt8 → PR) (sign : Nat) (kind : Int) : Nat → List T → List UInt8 → PR
 | 0,p,r => some (p,r)
 | n + 1,p,r => match r with
  | [] => some (p,[])
  | c :: r' => if c.toNat = sign then match part r' with
    | none => none
    | some (q,r'') => rowL part sign kind n (p ++ q ++ [(kind,0)]) r''
   else some (p,c :: r')
def rowP (part : List UInt8 → PR) (sign : Nat) (kind : Int) (s : List UInt8) : PR := match part s with
 | none => none
 | some (p,r) => rowL part sign kind r.length p r
def pAtm : Nat → List UInt8 → PR
 | 0,_ => none
 | _ + 1,[] => none
 | f + 1,c :: r =>
  if c.toNat = 33 then match pAtm f r with
   | none => none
   | some (p,q) => some (p ++ [(1,0)],q)
  else if c.toNat = 40 then match rowP (rowP (pAtm f) 38 2) 124 3 r with
   | some (p,d :: q) => if d.toNat = 41 then some (p,q) else none
   | _ => none
  else if 97 ≤ c.toNat ∧ c.toNat ≤ 101 then some ([(0,(c.toNat : Int) - 97)],r) else none
def pAnd (f : Nat) (s : List UInt8) : PR := rowP (pAtm f) 38 2 s
def pOr (f : Nat) (s : List UInt8) : PR := rowP (pAnd f) 124 3 s
/-- what a part leaves is a rest,and marks fewer than twice what it took -/
def fine (part : List UInt8 → PR) : Prop := ∀ s p r,part s = some (p,r) → p ≠ [] ∧ (∃ a,a ≠ [] ∧ s = a ++ r ∧ p.length + 1 ≤ 2 * a.length)
theorem fine_len {part : List UInt8 → PR} (h : fine part) {s : List UInt8} {p : List T} {r : List UInt8} (e : part s = some (p,r)) : r.length < s.length ∧ p.length + 2 * r.length + 1 ≤ 2 * s.length ∧ 0 < p.length := by
 obtain ⟨h1,a,h2,h3,h4⟩ := h s p r e
 have := List.length_pos_iff.2 h2
 have := List.length_pos_iff.2 h1
 have := congrArg List.length h3
 simp at this
 omega
theorem rowL_fine {part : List UInt8 → PR} (h : fine part) (sign : Nat) (kind : Int) : ∀ (n : Nat) (p : List T) (r : List UInt8) (p' : List T) (r' : List UInt8),p ≠ [] → rowL part sign kind n p r = some (p',r') → p' ≠ [] ∧ ∃ a,r = a ++ r' ∧ p'.length ≤ p.length + 2 * a.length
 | 0,p,r,p',r',hp,e => by
  simp only [rowL,Option.some.injEq,Prod.mk.injEq] at e
  obtain ⟨rfl,rfl⟩ := e
  exact ⟨hp,[],rfl,by simp⟩
 | n + 1,p,r,p',r',hp,e => by
  simp only [rowL] at e
  cases r with
  | nil =>
   simp only [Option.some.injEq,Prod.mk.injEq] at e
   obtain ⟨rfl,rfl⟩ := e
   exact ⟨hp,[],rfl,by simp⟩
  | cons c r0 =>
   simp only at e
   split at e
   ·split at e
    ·cases e
    ·rename_i q r1 hq
     obtain ⟨_,a,_,ha,hb⟩ := h r0 q r1 hq
     obtain ⟨g1,a',g2,g3⟩ := rowL_fine h sign kind n _ r1 p' r' (by simp) e
     refine ⟨g1,c :: a ++ a',by rw [ha,g2]; simp,?_⟩
     simp at g3 ⊢
     omega
   ·simp only [Option.some.injEq,Prod.mk.injEq] at e
    obtain ⟨rfl,rfl⟩ := e
    exact ⟨hp,[],rfl,by simp⟩
theorem rowP_fine {part : List UInt8 → PR} (h : fine part) (sign : Nat) (kind : Int) : fine (rowP part sign kind) := by
 intro s p r e
 unfold rowP at e
 split at e
 ·cases e
 ·rename_i p0 r0 h0
  obtain ⟨g1,a,g2,g3,g4⟩ := h s p0 r0 h0
  obtain ⟨k1,a',k2,k3⟩ := rowL_fine h sign kind _ _ _ _ _ g1 e
  exact ⟨k1,a ++ a',by simp [g2],by rw [g3,k2]; simp,by simp; omega⟩
theorem pA_fine : ∀ f,fine (pAtm f)
 | 0 => fun s p r e => by simp [pAtm] at e
 | f + 1 => fun s p r e => by
  cases s with
  | nil => simp [pAtm] at e
  | cons c s =>
   simp only [pAtm] at e
   split at e
   ·split at e
    ·cases e
    ·rename_i q r1 hq
     obtain ⟨g1,a,g2,g3,g4⟩ := pA_fine f _ _ _ hq
     simp only [Option.some.injEq,Prod.mk.injEq] at e
     obtain ⟨rfl,rfl⟩ := e
     exact ⟨by simp,c :: a,by simp,by rw [g3]; simp,by simp; omega⟩
   ·split at e
    ·split at e
     ·rename_i q d r1 hq
      obtain ⟨g1,a,g2,g3,g4⟩ := rowP_fine (rowP_fine (pA_fine f) 38 2) 124 3 _ _ _ hq
      split at e
      ·simp only [Option.some.injEq,Prod.mk.injEq] at e
       obtain ⟨rfl,rfl⟩ := e
       exact ⟨g1,c :: a ++ [d],by simp,by rw [g3]; simp,by simp; omega⟩
      ·cases e
     ·cases e
    ·split at e
     ·simp only [Option.some.injEq,Prod.mk.injEq] at e
      obtain ⟨rfl,rfl⟩ := e
      exact ⟨by simp,[c],by simp,by simp,by simp⟩
     ·cases e
def encP (o : PR) : DV := match o with
 | none => .tup [.fr 2 [],.s []]
 | some (p,r) => .tup [.fr 2 (p.map e2),.s r]
def stR (sign : Nat) (kind : Int) (f : Nat) (p : List T) (r : List UInt8) : LS :=
 ⟨[(1,.y sign),(2,.i kind),(3,.fn f []),(10,.own 8209 p.length 0 p.length),(11,.s r)],[(8209,p.map e2)]⟩
set_option maxHeartbeats 4000000 in
theorem l_readRow {part : List UInt8 → PR} (hf : fine part) {f : Nat} (sign : Nat) (kind : Int) : ∀ (n : Nat) (p : List T) (r : List UInt8),r.length ≤ n → (∀ s,s.length < r.length → call lf f [.s s] = some (encP (part s),[])) → p ≠ [] → p.length + 2 * r.length ≤ 1000000 →
  ex lf F_impl_readRow_W0 (stR sign kind f p r) = match rowL part sign kind n p r with
   | none => some (.ret,⟨[(8,.own 4112 0 0 0),(9,.s [])],[(4112,[])]⟩)
   | some (p',r') => some (.exit 0,stR sign kind f p' r') := by
 intro n
 induction n with
 | zero =>
  intro p r hn H hp hl
  have : r = [] := List.eq_nil_of_length_eq_zero (by omega)
  subst this
  have lp : 0 < p.length := List.length_pos_iff.2 hp
  rw [w_impl_readRow_0]
  unfold stR
  simp [F_impl_readRow_L0,lp,rowL]
 | succ n ih =>
  intro p r hn H hp hl
  have lp : 0 < p.length := List.length_pos_iff.2 hp
  rw [w_impl_readRow_0]
  cases r with
  | nil =>
   unfold stR
   simp [F_impl_readRow_L0,lp,rowL]
  | cons c r0 =>
   simp only [List.length_cons] at hn hl
   simp only [rowL]
   by_cases hc : c.toNat = sign
   ·rw [if_pos hc]
    have K := H r0 (by simp)
    have l1 : 1 ≤ (r0.length : Int) + 1 := by omega
    cases hq : part r0 with
    | none =>
     rw [hq] at K
     simp only [encP] at K
     unfold stR
     simp [F_impl_readRow_L0,lp,hc,l1,K]
    | some v =>
     obtain ⟨q,r1⟩ := v
     rw [hq] at K
     simp only [encP] at K
     obtain ⟨g1,g2,g3⟩ := fine_len hf hq
     have I := ih (p ++ q ++ [(kind,0)]) r1 (by omega) (fun s hs => H s (by simp; omega)) (by simp) (by simp; omega)
     have lb1 : p.length + q.length ≤ bound := by unfold bound; omega
     have lb2 : p.length + (q.length + 1) ≤ bound := by unfold bound; omega
     have lq : ¬ q = [] := fun h => by rw [h] at g3; simp at g3
     have qn : ¬ q.length = 0 := by omega
     have qn' : ((q.length : Int) == 0) = false := beq_eq_false_iff_ne.2 (by omega)
     simp only [hq]
     rw [← I]
     unfold stR
     simp [F_impl_readRow_L0,lp,hc,l1,K,lb1,lb2,qn',lq,if_pos (e2_wid q),e2,Nat.add_assoc]
   ·rw [if_neg hc]
    have hc' : (c.toNat == sign) = false := beq_eq_false_iff_ne.2 hc
    unfold stR
    simp [F_impl_readRow_L0,lp,hc']
set_option maxHeartbeats 4000000 in
theorem c_readRow {part : List UInt8 → PR} (hf : fine part) {f : Nat} (sign : Nat) (kind : Int) (s : List UInt8) (hl : s.length ≤ 100000) (H : ∀ s',s'.length ≤ s.length → call lf f [.s s'] = some (encP (part s'),[])) :
  call lf n_impl_readRow [.s s,.y sign,.i kind,.fn f []] = some (encP (rowP part sign kind s),[]) := by
 rw [call_k lf n_impl_readRow _ (F := F_impl_readRow) rfl rfl]
 have K := H s (Nat.le_refl _)
 unfold rowP
 cases hp : part s with
 | none =>
  rw [hp] at K
  simp only [encP] at K
  have W : ex lf F_impl_readRow_W0 ⟨[(1,.y sign),(2,.i kind),(3,.fn f []),(10,.own 8209 0 0 0),(11,.s [])],[(8209,[])]⟩ = some (.exit 0,⟨[(1,.y sign),(2,.i kind),(3,.fn f []),(10,.own 8209 0 0 0),(11,.s [])],[(8209,[])]⟩) := by
   rw [w_impl_readRow_0]
   simp [F_impl_readRow_L0]
  simp [F_impl_readRow,K,W,encP]
 | some v =>
  obtain ⟨p,r⟩ := v
  rw [hp] at K
  simp only [encP] at K
  obtain ⟨g1,g2,g3⟩ := fine_len hf hp
  have L := l_readRow hf (f := f) sign kind r.length p r (Nat.le_refl _) (fun s' hs => H s' (by omega)) (List.length_pos_iff.1 g3) (by omega)
  simp only
  cases hw : rowL part sign kind r.length p r with
  | none =>
   rw [hw] at L
   unfold stR at L
   simp only at L
   simp [F_impl_readRow,K,L,encP]
  | some u =>
   obtain ⟨p',r'⟩ := u
   rw [hw] at L
   unfold stR at L
   simp only at L
   simp [F_impl_readRow,K,L,encP]
theorem c_impl_placeOf (c : UInt8) : call lf n_impl_placeOf [.y c.toNat] = some (.i ((c.toNat : Int) - 97),[]) := by
 have hc : c.toNat < 256 := c.toNat_lt
 have w1 : wr ((c.toNat : Int) - 97) = (c.toNat : Int) - 97 := wr_id (by omega) (by omega)
 rw [call_k lf n_impl_placeOf _ (F := F_impl_placeOf) rfl rfl]
 simp [F_impl_placeOf,w1]
theorem c_readLetter (c : UInt8) (r : List UInt8) : call lf n_impl_readLetter [.s (c :: r)] = some (encP (if 97 ≤ c.toNat ∧ c.toNat ≤ 101 then some ([(0,(c.toNat : Int) - 97)],r) else none),[]) := by
 rw [call_k lf n_impl_readLetter _ (F := F_impl_readLetter) rfl rfl]
 have P := c_impl_placeOf c
 have l1 : 1 ≤ (r.length : Int) + 1 := by omega
 have W := c_impl_isWithin ((c.toNat : Int) - 97) 0 4
 by_cases h : 97 ≤ c.toNat ∧ c.toNat ≤ 101
 ·have e : decide ((0 : Int) ≤ (c.toNat : Int) - 97 ∧ (c.toNat : Int) - 97 ≤ 4) = true := decide_eq_true (by omega)
  rw [e] at W
  rw [if_pos h]
  simp [F_impl_readLetter,P,W,l1,encP,e2]
 ·have e : decide ((0 : Int) ≤ (c.toNat : Int) - 97 ∧ (c.toNat : Int) - 97 ≤ 4) = false := decide_eq_false (by omega)
  rw [e] at W
  rw [if_neg h]
  simp [F_impl_readLetter,P,W,encP]
theorem c_readAnd {n : Nat} (hn : n ≤ 100000) (H : ∀ s,s.length ≤ n → call lf n_impl_readNot [.s s] = some (encP (pAtm n s),[])) : ∀ s,s.length ≤ n → call lf n_impl_readAnd [.s s] = some (encP (pAnd n s),[]) := by
 intro s hs
 have R := c_readRow (pA_fine n) (f := n_impl_readNot) 38 2 s (by omega) (fun s' h => H s' (by omega))
 have e : rowP (pAtm n) 38 2 s = pAnd n s := rfl
 rw [e] at R
 rw [call_k lf n_impl_readAnd _ (F := F_impl_readAnd) rfl rfl]
 cases h : pAnd n s with
 | none => rw [h] at R; simp only [encP] at R; simp [F_impl_readAnd,R,encP]
 | some v => obtain ⟨p,r⟩ := v; rw [h] at R; simp only [encP] at R; simp [F_impl_readAnd,R,encP]
theorem c_readOr {n : Nat} (hn : n ≤ 100000) (H : ∀ s,s.length ≤ n → call lf n_impl_readNot [.s s] = some (encP (pAtm n s),[])) : ∀ s,s.length ≤ n → call lf n_impl_readOr [.s s] = some (encP (pOr n s),[]) := by
 intro s hs
 have R := c_readRow (rowP_fine (pA_fine n) 38 2) (f := n_impl_readAnd) 124 3 s (by omega) (fun s' h => c_readAnd hn H s' (by omega))
 have e : rowP (rowP (pAtm n) 38 2) 124 3 s = pOr n s := rfl
 rw [e] at R
 rw [call_k lf n_impl_readOr _ (F := F_impl_readOr) rfl rfl]
 cases h : pOr n s with
 | none => rw [h] at R; simp only [encP] at R; simp [F_impl_readOr,R,encP]
 | some v => obtain ⟨p,r⟩ := v; rw [h] at R; simp only [encP] at R; simp [F_impl_readOr,R,encP]
set_option maxHeartbeats 4000000 in
theorem c_readNot : ∀ (n : Nat),n ≤ 100000 → ∀ s : List UInt8,s.length ≤ n → call lf n_impl_readNot [.s s] = some (encP (pAtm n s),[]) := by
 intro n
 induction n with
 | zero =>
  intro _ s hs
  have : s = [] := List.eq_nil_of_length_eq_zero (by omega)
  subst this
  rw [call_k lf n_impl_readNot _ (F := F_impl_readNot) rfl rfl]
  simp [F_impl_readNot,pAtm,encP]
 | succ n ih =>
  intro hn s hs
  have ih := ih (by omega)
  cases s with
  | nil =>
   rw [call_k lf n_impl_readNot _ (F := F_impl_readNot) rfl rfl]
   simp [F_impl_readNot,pAtm,encP]
  | cons c r =>
   simp only [List.length_cons] at hs
   have N := ih r (by omega)
   have O := c_readOr (by omega) ih r (by omega)
   have E : rowP (rowP (pAtm n) 38 2) 124 3 r = pOr n r := rfl
   have Lt := c_readLetter c r
   have l1 : 1 ≤ (r.length : Int) + 1 := by omega
   rw [call_k lf n_impl_readNot _ (F := F_impl_readNot) rfl rfl]
   simp only [pAtm,E]
   by_cases h1 : c.toNat = 33
   ·rw [if_pos h1]
    cases hq : pAtm n r with
    | none =>
     rw [hq] at N
     simp only [encP] at N
     simp [F_impl_readNot,h1,l1,N,encP]
    | some v =>
     obtain ⟨p,q⟩ := v
     rw [hq] at N
     simp only [encP] at N
     obtain ⟨g1,g2,g3⟩ := fine_len (pA_fine n) hq
     have pn : ((p.length : Int) == 0) = false := beq_eq_false_iff_ne.2 (by omega)
     have pn2 : ¬ p = [] := List.length_pos_iff.1 g3
     have lb : p.length + 1 ≤ bound := by unfold bound; omega
     simp [F_impl_readNot,h1,l1,N,encP,pn,pn2,lb,e2]
   ·rw [if_neg h1]
    have h1' : (c.toNat == 33) = false := beq_eq_false_iff_ne.2 h1
    by_cases h2 : c.toNat = 40
    ·rw [if_pos h2]
     cases hq : pOr n r with
     | none =>
      rw [hq] at O
      simp only [encP] at O
      simp [F_impl_readNot,h2,l1,O,encP]
     | some v =>
      obtain ⟨p,q⟩ := v
      rw [hq] at O
      simp only [encP] at O
      cases q with
      | nil => simp [F_impl_readNot,h2,l1,O,encP]
      | cons d q =>
       have l2 : 1 ≤ (q.length : Int) + 1 := by omega
       by_cases h3 : d.toNat = 41
       ·simp [F_impl_readNot,h2,l1,l2,O,encP,h3]
       ·have h3' : (d.toNat != 41) = true := bne_iff_ne.2 h3
        simp [F_impl_readNot,h2,l1,O,encP,h3,h3']
    ·rw [if_neg h2]
     have h2' : (c.toNat == 40) = false := beq_eq_false_iff_ne.2 h2
     by_cases h4 : 97 ≤ c.toNat ∧ c.toNat ≤ 101
     ·rw [if_pos h4] at Lt ⊢
      simp only [encP] at Lt
      simp [F_impl_readNot,h1',h2',Lt,encP,e2]
     ·rw [if_neg h4] at Lt ⊢
      simp only [encP] at Lt
      simp [F_impl_readNot,h1',h2',Lt,encP]
/-- the term whose text a text is -/
def rdOf (m : Int) (s : List UInt8) : Option (List T) := if 80 < s.length then none else match pOr s.length s with
 | some (p,[]) => if tmOk m p = true ∧ ttOf m p = s then some p else none
 | _ => none
theorem pOr_len {n : Nat} {s : List UInt8} {p : List T} {r : List UInt8} (h : pOr n s = some (p,r)) : p.length ≤ 2 * s.length := by
 have := fine_len (rowP_fine (rowP_fine (pA_fine n) 38 2) 124 3) h
 omega
set_option maxHeartbeats 4000000 in
theorem c_impl_ReadTerm (m : Int) (s : List UInt8) (hl : s.length ≤ 1073741824) : call lf n_impl_ReadTerm [.i m,.s s] = some (.tup [.fr 2 (((rdOf m s).getD []).map e2),.b (rdOf m s).isSome],[]) := by
 rw [call_k lf n_impl_ReadTerm _ (F := F_impl_ReadTerm) rfl rfl]
 unfold rdOf
 by_cases h : 80 < s.length
 ·have h' : (80 : Int) < s.length := by omega
  simp [F_impl_ReadTerm,h,h']
 ·have h' : ¬ ((80 : Int) < s.length) := by omega
  have O := c_readOr (n := s.length) (by omega) (c_readNot s.length (by omega)) s (Nat.le_refl _)
  rw [if_neg h]
  cases hq : pOr s.length s with
  | none =>
   rw [hq] at O
   simp only [encP] at O
   have C := c_impl_TermOk m [] (by simp)
   have e : tmOk m [] = false := by
    rw [← Bool.not_eq_true]; intro hh
    have := (tmOk_iff.1 hh).2.2
    simp [runM] at this
   rw [e] at C
   simp at C
   simp [F_impl_ReadTerm,h,h',O,C]
  | some v =>
   obtain ⟨p,r⟩ := v
   rw [hq] at O
   simp only [encP] at O
   have pl := pOr_len hq
   have C := c_impl_TermOk m p (by omega)
   have X := c_impl_TermText m p (by omega)
   have lb : p.length ≤ bound := by unfold bound; omega
   cases r with
   | cons c r => simp [F_impl_ReadTerm,h,h',O]
   | nil =>
    simp only
    cases ht : tmOk m p with
    | false => rw [ht] at C; simp [F_impl_ReadTerm,h,h',O,C,lb]
    | true =>
     rw [ht] at C
     by_cases hx : ttOf m p = s
     ·simp [F_impl_ReadTerm,h,h',O,C,X,lb,hx]
     ·have hx' : (ttOf m p == s) = false := beq_eq_false_iff_ne.2 hx
      simp [F_impl_ReadTerm,h,h',O,C,X,lb,hx,hx']
end
section
def cA (us : List T) (a : Nat) : Int := (us.getD a (0,0)).1
theorem cA_nn {us : List T} (h : us.all tOk = true) (k : Nat) : 0 ≤ cA us k ∧ (k < us.length → 1 ≤ cA us k) ∧ cA us k ≤ 9 := by
 unfold cA
 by_cases hk : k < us.length
 ·have e : us.getD k (0,0) = us[k] := by simp [List.getD,hk]
  rw [e]
  have := tOk_iff.1 (List.all_eq_true.1 h us[k] (List.getElem_mem hk))
  omega
 ·have e : us.getD k (0,0) = (0,0) := by simp [List.getD,List.getElem?_eq_none (by omega : us.length ≤ k)]
  rw [e]; simp; omega
end
section
def rng (n : Nat) : List Int := (List.range n).map fun (k : Nat) => (k : Int)
theorem rng_succ (n : Nat) : rng (n + 1) = rng n ++ [(n : Int)] := by simp [rng,List.range_succ]
theorem mem_rng {n : Nat} {o : Int} : o ∈ rng n ↔ 0 ≤ o ∧ o < n := by
 unfold rng
 rw [List.mem_map]
 constructor
 ·rintro ⟨k,h,rfl⟩; have := List.mem_range.1 h; omega
 ·intro h; exact ⟨o.toNat,List.mem_range.2 (by omega),by omega⟩
end
section
def hkn (m : Nat) (ks : List Int) (so : Nat) : Prop := ∀ k,k < m → (ks[k]? = some (-1) ↔ so.testBit k = false)
def non (m : Nat) : List Int := List.replicate m (-1)
theorem wk_non : ∀ us : List T,wk us (non us.length) = 6 ^ us.length
 | [] => rfl
 | t :: r => by
  have := wk_non r
  unfold non at *
  rw [List.length_cons,List.replicate_succ,wk,this,if_pos rfl,Int.pow_succ,Int.mul_comm]
end
section
/-- the chance of a test to end a row -/
def eA (us : List T) (row : Int) (a : Nat) : Int := if row = 0 then 6 - (us.getD a (0,0)).2 else (us.getD a (0,0)).2
def rA (us : List T) (row : Int) : Int → List Int → Int
 | _,[] => 0
 | on,a :: r => cA us a.toNat * on * 6 ^ (r.length + 1) + rA us row (on * (6 - eA us row a.toNat)) r
theorem eA_bd {us : List T} (h : us.all tOk = true) {row : Int} {a : Nat} (ha : a < us.length) : 1 ≤ eA us row a ∧ eA us row a ≤ 5 := by
 have e : us.getD a (0,0) = us[a] := by simp [List.getD,ha]
 have := tOk_iff.1 (List.all_eq_true.1 h us[a] (List.getElem_mem ha))
 unfold eA
 rw [e]
 split <;> omega
end
section
/-- the one costs no more for its chance to end than the other -/
def rLe (us : List T) (row : Int) (a b : Int) : Bool := decide (cA us a.toNat * eA us row b.toNat ≤ cA us b.toNat * eA us row a.toNat)
def insR (us : List T) (row : Int) (k : Int) : List Int → List Int
 | [] => [k]
 | o :: r => if rLe us row o k = true then o :: insR us row k r else k :: o :: r
def rO (us : List T) (row : Int) : Nat → List Int
 | 0 => []
 | n + 1 => insR us row (n : Int) (rO us row n)
theorem insR_perm (us : List T) (row k : Int) : ∀ l : List Int,(insR us row k l).Perm (k :: l)
 | [] => List.Perm.refl _
 | o :: r => by
  simp only [insR]
  split
  ·exact ((insR_perm us row k r).cons o).trans (List.Perm.swap k o r)
  ·exact List.Perm.refl _
theorem rO_perm (us : List T) (row : Int) : ∀ n : Nat,(rO us row n).Perm (rng n)
 | 0 => List.Perm.refl _
 | n + 1 => by
  rw [rng_succ]
  exact (insR_perm us row n (rO us row n)).trans (((rO_perm us row n).cons (n : Int)).trans (List.perm_append_comm (l₁ := [(n : Int)])))
theorem rO_mem {us : List T} {row : Int} {n : Nat} {o : Int} (h : o ∈ rO us row n) : 0 ≤ o ∧ o < n := mem_rng.1 ((rO_perm us row n).mem_iff.1 h)
theorem rLe_trans {us : List T} (h : us.all tOk = true) {row a b c : Int} (ha : a.toNat < us.length) (hb : b.toNat < us.length) (hc : c.toNat < us.length)
  (h1 : rLe us row a b = true) (h2 : rLe us row b c = true) : rLe us row a c = true := by
 unfold rLe at *
 rw [decide_eq_true_eq] at *
 have ea := eA_bd h (row := row) ha
 have eb := eA_bd h (row := row) hb
 have ec := eA_bd h (row := row) hc
 refine Int.le_of_mul_le_mul_right (a := eA us row b.toNat) ?_ (by omega)
 have q1 := Int.mul_le_mul_of_nonneg_right h1 (show 0 ≤ eA us row c.toNat by omega)
 have q2 := Int.mul_le_mul_of_nonneg_right h2 (show 0 ≤ eA us row a.toNat by omega)
 revert q1 q2
 generalize cA us a.toNat = ca
 generalize cA us b.toNat = cb
 generalize cA us c.toNat = cc
 generalize eA us row a.toNat = x
 generalize eA us row b.toNat = y
 generalize eA us row c.toNat = z
 intro q1 q2
 have e1 : ca * z * y = ca * y * z := by rw [Int.mul_assoc,Int.mul_comm z,Int.mul_assoc]
 have e2 : cb * x * z = cb * z * x := by rw [Int.mul_assoc,Int.mul_comm x,Int.mul_assoc]
 have e3 : cc * x * y = cc * y * x := by rw [Int.mul_assoc,Int.mul_comm x,Int.mul_assoc]
 omega
theorem rLe_total {us : List T} {row a b : Int} (h : rLe us row a b = false) : rLe us row b a = true := by
 unfold rLe at *
 rw [decide_eq_true_eq]
 rw [decide_eq_false_iff_not] at h
 omega
end
section
attribute [-simp] DV.cells sliceD
attribute [local simp] cells_st cells_sl cells_i cells_y cells_b cells_s cells_w
theorem non_len (k : Nat) : (non k).length = k := by simp [non]
end
section
attribute [-simp] DV.cells sliceD
attribute [local simp] cells_st cells_sl cells_i cells_y cells_b cells_s cells_w
theorem cA_at {us : List T} {a : Int} (h0 : 0 ≤ a) (h1 : a < us.length) : ∃ c q : Int,atI (us.map e2) a = some (.st [.i c,.i q]) ∧ c = cA us a.toNat ∧ us.getD a.toNat (0,0) = (c,q) := by
 have hl : a.toNat < us.length := by omega
 have e : us.getD a.toNat (0,0) = us[a.toNat] := by simp [List.getD,hl]
 refine ⟨us[a.toNat].1,us[a.toNat].2,?_,?_,e⟩
 ·simp only [atI,if_pos h0]
  show (us.map e2)[a.toNat]? = _
  simp [hl,e2]
 ·unfold cA; rw [e]
end
section
attribute [-simp] DV.cells sliceD
attribute [local simp] cells_st cells_sl cells_i cells_y cells_b cells_s cells_w
theorem p6 : ∀ {n : Nat},n ≤ 5 → (1 : Int) ≤ 6 ^ n ∧ (6 : Int) ^ n ≤ 7776 := by
 intro n hn
 have : n = 0 ∨ n = 1 ∨ n = 2 ∨ n = 3 ∨ n = 4 ∨ n = 5 := by omega
 rcases this with rfl | rfl | rfl | rfl | rfl | rfl <;> decide
def stW (us : List T) (tab : Nat) (os : List Int) (k : Nat) (ks : List Int) (w a sum sd : Int) : LS :=
 ⟨[(0,.sl 0 (us.map e2)),(1,.i tab),(2,.sl 0 (os.map .i)),(3,.i k),(4,.sl 0 (ks.map .i)),(5,.i w),(13,.i a),(14,.i sum),(15,.i sd)],[]⟩
end
section
inductive PT where
 | stop
 | ask (k : Nat) (no yes : PT)
/-- how many are not known -/
def uk : List Int → Nat
 | [] => 0
 | k :: r => (if k = -1 then 1 else 0) + uk r
theorem uk_set {b : Int} (hb : b ≠ -1) : ∀ {ks : List Int} {k : Nat},ks[k]? = some (-1) → uk (ks.set k b) + 1 = uk ks
 | [],k,h => by simp at h
 | x :: r,0,h => by
  simp only [List.getElem?_cons_zero,Option.some.injEq] at h
  subst h
  simp only [List.set_cons_zero,uk,if_neg hb,if_true]
  omega
 | x :: r,k + 1,h => by
  simp only [List.getElem?_cons_succ] at h
  have := uk_set hb h
  simp only [List.set_cons_succ,uk]
  omega
theorem uk_le : ∀ ks : List Int,uk ks ≤ ks.length
 | [] => Nat.le_refl _
 | k :: r => by have := uk_le r; simp only [uk,List.length_cons]; split <;> omega
theorem uk_zero : ∀ {ks : List Int},uk ks = 0 → ∀ k : Nat,ks[k]? ≠ some (-1)
 | [],_,k,h => by simp at h
 | x :: r,h,0,hk => by
  simp only [List.getElem?_cons_zero,Option.some.injEq] at hk
  simp [uk,hk] at h
 | x :: r,h,k + 1,hk => by
  simp only [List.getElem?_cons_succ] at hk
  simp only [uk] at h
  exact uk_zero (by omega) k hk
theorem uk_none : ∀ {ks : List Int},(∀ k : Nat,ks[k]? ≠ some (-1)) → uk ks = 0
 | [],_ => rfl
 | x :: r,h => by
  have h0 := h 0
  simp only [List.getElem?_cons_zero,ne_eq,Option.some.injEq] at h0
  simp only [uk]
  rw [if_neg h0,uk_none fun k hk => h (k + 1) (by simpa using hk)]
theorem uk_pos {ks : List Int} {k : Nat} (h : ks[k]? = some (-1)) : 0 < uk ks := by
 cases hu : uk ks with
 | zero => exact absurd h (uk_zero hu k)
 | succ n => omega
theorem uk_non (m : Nat) : uk (non m) = m := by
 induction m with
 | zero => rfl
 | succ n ih =>
  show uk (List.replicate (n + 1) (-1)) = n + 1
  rw [List.replicate_succ,uk,if_pos rfl,show List.replicate n (-1 : Int) = non n from rfl,ih]
  omega
/-- one more is known: what the weights are then -/
theorem wk_put : ∀ {us : List T} {ks : List Int} {k : Nat},ks.length = us.length → ks[k]? = some (-1) →
  ∃ w,wk us ks = 6 * w ∧ wk us (ks.set k 0) = w * (6 - (us.getD k (0,0)).2) ∧ wk us (ks.set k 1) = w * (us.getD k (0,0)).2
 | _,[],k,_,h => by simp at h
 | [],x :: r,k,hl,h => by simp at hl
 | t :: us,x :: r,0,hl,h => by
  simp only [List.getElem?_cons_zero,Option.some.injEq] at h
  subst h
  refine ⟨wk us r,rfl,?_,?_⟩
  ·show (6 - t.2) * wk us r = _
   rw [Int.mul_comm]; rfl
  ·show t.2 * wk us r = _
   rw [Int.mul_comm]; rfl
 | t :: us,x :: r,k + 1,hl,h => by
  simp only [List.getElem?_cons_succ] at h
  obtain ⟨w,h1,h2,h3⟩ := wk_put (us := us) (by simpa using hl) h
  have e : ∀ ks : List Int,wk (t :: us) (x :: ks) = (if x = -1 then 6 else if x = 1 then t.2 else 6 - t.2) * wk us ks := fun _ => rfl
  generalize hc : (if x = -1 then 6 else if x = 1 then t.2 else 6 - t.2) = c at e
  refine ⟨c * w,?_,?_,?_⟩
  ·rw [e,h1,Int.mul_left_comm]
  ·rw [List.set_cons_succ,e,h2,Int.mul_assoc]; rfl
  ·rw [List.set_cons_succ,e,h3,Int.mul_assoc]; rfl
theorem wk_two {us : List T} {ks : List Int} {k : Nat} (hl : ks.length = us.length) (h : ks[k]? = some (-1)) : wk us (ks.set k 0) + wk us (ks.set k 1) = wk us ks := by
 obtain ⟨w,h1,h2,h3⟩ := wk_put hl h
 rw [h1,h2,h3,← Int.mul_add,Int.mul_comm]
 congr 1
 omega
theorem agB_put {b : Bool} {s : Nat} : ∀ {ks : List Int} {k : Nat},ks[k]? = some (-1) → agB (ks.set k (bI b)) s = (agB ks s && (s.testBit k == b)) := by
 intro ks k h
 rw [Bool.eq_iff_iff,Bool.and_eq_true,agB_iff,agB_iff,beq_iff_eq]
 have hk : k < ks.length := (List.getElem?_eq_some_iff.1 h).1
 constructor
 ·intro H
  refine ⟨fun j v hj => ?_,?_⟩
  ·by_cases e : j = k
   ·subst e; rw [h] at hj; injection hj with hj; exact .inl hj.symm
   ·exact H j v (by rw [List.getElem?_set_ne (Ne.symm e)]; exact hj)
  ·rcases H k (bI b) (by rw [List.getElem?_set_self hk]) with q | q
   ·cases b <;> simp [bI] at q
   ·exact (bI_inj.1 q).symm
 ·rintro ⟨H,hb⟩ j v hj
  by_cases e : j = k
  ·subst e
   rw [List.getElem?_set_self hk] at hj
   injection hj with hj
   right
   rw [← hj,hb]
  ·rw [List.getElem?_set_ne (Ne.symm e)] at hj
   exact H j v hj
theorem bI_0 : bI false = 0 := rfl
theorem bI_1 : bI true = 1 := rfl
theorem kOk_set {ks : List Int} (h : ks.all kOk = true) (k : Nat) (b : Bool) : (ks.set k (bI b)).all kOk = true := by
 rw [List.all_eq_true] at h ⊢
 intro x hx
 rcases List.mem_or_eq_of_mem_set hx with h1 | h1
 ·exact h x h1
 ·rw [h1]; cases b <;> decide
theorem non_all (m : Nat) : (non m).all kOk = true := by
 rw [List.all_eq_true]
 intro x hx
 rw [List.eq_of_mem_replicate hx]
 decide
theorem agB_non (m s : Nat) : agB (non m) s = true := by
 rw [agB_iff]
 intro k v h
 left
 exact List.eq_of_mem_replicate (List.mem_of_getElem? h)
def fcd (m : Nat) (t : List T) (ks : List Int) : Bool := foT m t ks != -1
theorem fcd_iff {m : Nat} {t : List T} {ks : List Int} (hl : ks.length = m) (hk : ks.all kOk = true) : fcd m t ks = true ↔ ∃ b,∀ s,s < 2 ^ m → agB ks s = true → tv t s = b := by
 subst hl
 have hne := agB_some hk
 have F := fun b => fo_b (f := tv t) (g := agB ks) hne b
 have O := fo_or (tv t) (agB ks) (2 ^ ks.length)
 unfold fcd foT
 rw [Int.toNat_natCast,bne_iff_ne]
 constructor
 ·intro h
  rcases O with o | o | o
  ·exact ⟨true,(F true).1 o⟩
  ·exact ⟨false,(F false).1 o⟩
  ·exact absurd o h
 ·rintro ⟨b,hb⟩ h
  have := (F b).2 hb
  rw [h] at this
  cases b <;> simp [bI] at this
theorem fcd_all {m : Nat} {t : List T} {ks : List Int} (hl : ks.length = m) (hk : ks.all kOk = true) (h : uk ks = 0) : fcd m t ks = true := by
 obtain ⟨s0,q0,q1⟩ := agB_some hk
 rw [hl] at q0
 refine (fcd_iff hl hk).2 ⟨tv t s0,fun s hs ha => ?_⟩
 rw [eq_of_low hs q0 fun k hk' => ?_]
 obtain ⟨v,hv⟩ : ∃ v,ks[k]? = some v := ⟨ks[k],List.getElem?_eq_getElem (by omega)⟩
 have n1 : v ≠ -1 := fun e => uk_zero h k (by rw [hv,e])
 have a1 := (agB_iff.1 ha k v hv).resolve_left n1
 have a2 := (agB_iff.1 q1 k v hv).resolve_left n1
 exact bI_inj.1 (a1.symm.trans a2)
def okT (m : Nat) (t : List T) : List Int → PT → Prop
 | ks,.stop => fcd m t ks = true
 | ks,.ask k n y => fcd m t ks = false ∧ ks[k]? = some (-1) ∧ okT m t (ks.set k 0) n ∧ okT m t (ks.set k 1) y
/-- what a tree costs on average from what is known on -/
def tA (us : List T) : List Int → PT → Int
 | _,.stop => 0
 | ks,.ask k n y => wk us ks * cA us k + tA us (ks.set k 0) n + tA us (ks.set k 1) y
/-- the least of some sums,and the first place of it -/
def lpB (S : Nat → Int) (ks : List Int) : Nat → Int × Int
 | 0 => (-1,-1)
 | i + 1 => if ks[i]? = some (-1) then (if (lpB S ks i).1 < 0 ∨ S i < (lpB S ks i).1 then (S i,i) else lpB S ks i) else lpB S ks i
theorem lpB_spec {S : Nat → Int} {ks : List Int} (h0 : ∀ k,ks[k]? = some (-1) → 0 ≤ S k) : ∀ i : Nat,
  (lpB S ks i = (-1,-1) ∧ ∀ k,k < i → ks[k]? ≠ some (-1)) ∨ ∃ k : Nat,k < i ∧ ks[k]? = some (-1) ∧ lpB S ks i = (S k,(k : Int)) ∧ ∀ j,j < i → ks[j]? = some (-1) → S k ≤ S j ∧ (j < k → S k < S j)
 | 0 => .inl ⟨rfl,fun k h => by omega⟩
 | i + 1 => by
  simp only [lpB]
  by_cases hi : ks[i]? = some (-1)
  ·rw [if_pos hi]
   have hS := h0 i hi
   rcases lpB_spec h0 i with ⟨e,hn⟩ | ⟨k,k1,k2,e,hk⟩
   ·right
    rw [e,if_pos (.inl (by show (-1 : Int) < 0; omega))]
    refine ⟨i,by omega,hi,rfl,fun j hj hjk => ?_⟩
    have : j = i := by
     by_cases q : j < i
     ·exact absurd hjk (hn j q)
     ·omega
    subst this
    exact ⟨Int.le_refl _,fun h => by omega⟩
   ·right
    rw [e]
    have hSk := h0 k k2
    by_cases hlt : S i < S k
    ·rw [if_pos (.inr hlt)]
     refine ⟨i,by omega,hi,rfl,fun j hj hjk => ?_⟩
     by_cases q : j = i
     ·subst q; exact ⟨Int.le_refl _,fun h => by omega⟩
     ·obtain ⟨p1,p2⟩ := hk j (by omega) hjk
      exact ⟨by omega,fun _ => by omega⟩
    ·rw [if_neg (by intro h; rcases h with h | h; exact absurd h (by show ¬ S k < 0; omega); exact hlt h)]
     refine ⟨k,by omega,k2,rfl,fun j hj hjk => ?_⟩
     by_cases q : j = i
     ·subst q; exact ⟨by omega,fun h => by omega⟩
     ·exact hk j (by omega) hjk
  ·rw [if_neg hi]
   rcases lpB_spec h0 i with ⟨e,hn⟩ | ⟨k,k1,k2,e,hk⟩
   ·left
    refine ⟨e,fun k hk => ?_⟩
    by_cases q : k = i
    ·subst q; exact hi
    ·exact hn k (by omega)
   ·right
    refine ⟨k,by omega,k2,e,fun j hj hjk => ?_⟩
    by_cases q : j = i
    ·subst q; exact absurd hjk hi
    ·exact hk j (by omega) hjk
/-- the least average from what is known on,and the first test of a plan that reaches it -/
def bPl (us t : List T) : Nat → List Int → Int × Int
 | 0,_ => (0,-1)
 | f + 1,ks => if fcd us.length t ks = true then (0,-1) else lpB (fun k => wk us ks * cA us k + (bPl us t f (ks.set k 0)).1 + (bPl us t f (ks.set k 1)).1) ks us.length
def bS (us t : List T) (f : Nat) (ks : List Int) (k : Nat) : Int := wk us ks * cA us k + (bPl us t f (ks.set k 0)).1 + (bPl us t f (ks.set k 1)).1
/-- the tree that it reaches -/
def bT (us t : List T) : Nat → List Int → PT
 | 0,_ => .stop
 | f + 1,ks => if (bPl us t (f + 1) ks).2 = -1 then .stop else .ask (bPl us t (f + 1) ks).2.toNat (bT us t f (ks.set (bPl us t (f + 1) ks).2.toNat 0)) (bT us t f (ks.set (bPl us t (f + 1) ks).2.toNat 1))
/-- the first test of the best tree,and what it comes to -/
structure BPs (us t : List T) (f : Nat) (ks : List Int) : Prop where
 nn : 0 ≤ (bPl us t f ks).1
 stop : fcd us.length t ks = true → bPl us t f ks = (0,-1)
 go : fcd us.length t ks = false → ∃ k : Nat,ks[k]? = some (-1) ∧ (bPl us t f ks).2 = (k : Int) ∧ (bPl us t f ks).1 = bS us t (f - 1) ks k ∧ ∀ j : Nat,ks[j]? = some (-1) → (bPl us t f ks).1 ≤ bS us t (f - 1) ks j ∧ (j < k → (bPl us t f ks).1 < bS us t (f - 1) ks j)
theorem cA_nn' {us : List T} (h : us.all tOk = true) (k : Nat) : 0 ≤ cA us k := by
 have := cA_nn h k
 omega
theorem bPl_ok {us t : List T} (h : us.all tOk = true) : ∀ (f : Nat) (ks : List Int),ks.length = us.length → ks.all kOk = true → uk ks ≤ f → BPs us t f ks
 | 0,ks,hl,hk,hu => by
  have hf := fcd_all (t := t) hl hk (by omega)
  exact ⟨Int.le_refl _,fun _ => rfl,fun h => by rw [hf] at h; cases h⟩
 | f + 1,ks,hl,hk,hu => by
  have ih : ∀ k (b : Bool),ks[k]? = some (-1) → BPs us t f (ks.set k (bI b)) := fun k b h1 => by
   have := uk_set (b := bI b) (by cases b <;> simp [bI]) h1
   exact bPl_ok h f _ (by simpa using hl) (kOk_set hk k b) (by omega)
  have hS : ∀ k,ks[k]? = some (-1) → 0 ≤ bS us t f ks k := fun k h1 => by
   have a0 := (ih k false h1).nn
   have a1 := (ih k true h1).nn
   rw [bI_0] at a0
   rw [bI_1] at a1
   have w := (wk_bound (ks := ks) h).1
   have := Int.mul_nonneg (show 0 ≤ wk us ks by omega) (cA_nn' h k)
   unfold bS
   omega
  have e : bPl us t (f + 1) ks = if fcd us.length t ks = true then (0,-1) else lpB (bS us t f ks) ks us.length := rfl
  cases hf : fcd us.length t ks with
  | true =>
   rw [hf,if_pos rfl] at e
   refine ⟨by rw [e]; exact Int.le_refl _,fun _ => e,fun h => by rw [hf] at h; cases h⟩
  | false =>
   rw [hf,if_neg (by decide)] at e
   rcases lpB_spec hS us.length with ⟨_,hn⟩ | ⟨k,k1,k2,e2,hk2⟩
   ·exfalso
    have hu0 := uk_none (ks := ks) fun k hk' => hn k (by rw [← hl]; exact (List.getElem?_eq_some_iff.1 hk').1) hk'
    have := fcd_all (t := t) hl hk hu0
    rw [hf] at this; cases this
   ·rw [e2] at e
    refine ⟨by rw [e]; exact hS k k2,fun h => (by rw [hf] at h; cases h),fun _ => ⟨k,k2,by rw [e],by rw [e]; rfl,fun j hj => ?_⟩⟩
    rw [e]
    exact hk2 j (by rw [← hl]; exact (List.getElem?_eq_some_iff.1 hj).1) hj
/-- the best tree is one,and costs so much -/
theorem bT_ok {us t : List T} (h : us.all tOk = true) : ∀ (f : Nat) (ks : List Int),ks.length = us.length → ks.all kOk = true → uk ks ≤ f → okT us.length t ks (bT us t f ks) ∧ tA us ks (bT us t f ks) = (bPl us t f ks).1
 | 0,ks,hl,hk,hu => ⟨fcd_all hl hk (by omega),rfl⟩
 | f + 1,ks,hl,hk,hu => by
  obtain ⟨_,p2,p3⟩ := bPl_ok (t := t) h (f + 1) ks hl hk hu
  cases hf : fcd us.length t ks with
  | true =>
   have e := p2 hf
   have e1 : bT us t (f + 1) ks = .stop := by simp only [bT]; rw [e]; rfl
   rw [e1,e]
   exact ⟨hf,rfl⟩
  | false =>
   obtain ⟨k,k1,k2,k3,_⟩ := p3 hf
   have e1 : bT us t (f + 1) ks = .ask k (bT us t f (ks.set k 0)) (bT us t f (ks.set k 1)) := by
    simp only [bT]
    rw [k2,if_neg (by omega),Int.toNat_natCast]
   have q := fun (b : Bool) => bT_ok (t := t) h f (ks.set k (bI b)) (by simpa using hl) (kOk_set hk k b) (by have := uk_set (b := bI b) (by cases b <;> simp [bI]) k1; omega)
   have q0 := q false
   have q1 := q true
   rw [bI_0] at q0
   rw [bI_1] at q1
   rw [e1,k3]
   refine ⟨⟨hf,k1,q0.1,q1.1⟩,?_⟩
   simp only [tA,bS,Nat.add_sub_cancel]
   rw [q0.2,q1.2]
/-- no tree costs less -/
theorem bPl_le {us t : List T} (h : us.all tOk = true) : ∀ (x : PT) (f : Nat) (ks : List Int),ks.length = us.length → ks.all kOk = true → uk ks ≤ f → okT us.length t ks x → (bPl us t f ks).1 ≤ tA us ks x
 | .stop,f,ks,hl,hk,hu,hx => by
  rw [(bPl_ok h f ks hl hk hu).stop hx]
  exact Int.le_refl _
 | .ask k n y,f,ks,hl,hk,hu,⟨h1,h2,h3,h4⟩ => by
  obtain ⟨j,_,_,e,hj⟩ := (bPl_ok h f ks hl hk hu).go h1
  have up := uk_pos h2
  have q := fun (b : Bool) => uk_set (b := bI b) (by cases b <;> simp [bI]) h2
  have q0 := q false
  have q1 := q true
  rw [bI_0] at q0
  rw [bI_1] at q1
  have a0 := bPl_le h n (f - 1) (ks.set k 0) (by simpa using hl) (kOk_set hk k false) (by omega) h3
  have a1 := bPl_le h y (f - 1) (ks.set k 1) (by simpa using hl) (kOk_set hk k true) (by omega) h4
  have := (hj k h2).1
  simp only [tA]
  unfold bS at this
  omega
end
section
/-- from what is known on,from nothing known on -/
theorem ks_ex {ks : List Int} {k : Nat} (h : ks[k]? = some (-1)) : k < ks.length := (List.getElem?_eq_some_iff.1 h).1
/-- the least average of all -/
def bA (us t : List T) : Int := (bPl us t us.length (non us.length)).1
def bX (us t : List T) : PT := bT us t us.length (non us.length)
theorem bX_ok {us t : List T} (h : us.all tOk = true) : okT us.length t (non us.length) (bX us t) ∧ tA us (non us.length) (bX us t) = bA us t :=
 bT_ok h _ _ (non_len _) (non_all _) (by rw [uk_non]; exact Nat.le_refl _)
theorem bA_le {us t : List T} (h : us.all tOk = true) {x : PT} (hx : okT us.length t (non us.length) x) : bA us t ≤ tA us (non us.length) x :=
 bPl_le h x _ _ (non_len _) (non_all _) (by rw [uk_non]; exact Nat.le_refl _) hx
end
section
abbrev C3 := Int × Int × Int
/-- a tree with the places of its choices -/
inductive LT where
 | stop
 | ask (p k : Nat) (no yes : LT)
def LT.size : LT → Nat
 | .stop => 0
 | .ask _ _ n y => 1 + n.size + y.size
/-- where one may go on to from a place -/
def nxt (N : Nat) (p : Nat) (a : Int) : Prop := a = -1 ∨ ((p : Int) + 1 ≤ a ∧ a ≤ (N : Int) - 1)
instance (N p : Nat) (a : Int) : Decidable (nxt N p a) := by unfold nxt; infer_instance
/-- the row holds the tree,from a place on -/
def enc (P : List C3) : Int → LT → Prop
 | a,.stop => a = -1
 | a,.ask p k n y => a = (p : Int) ∧ ∃ no ye,P[p]? = some ((k : Int),no,ye) ∧ nxt P.length p no ∧ nxt P.length p ye ∧ enc P no n ∧ enc P ye y
/-- where a row goes on to -/
def rfs : List C3 → List Int
 | [] => []
 | (_,no,ye) :: r => (if no = -1 then [] else [no]) ++ (if ye = -1 then [] else [ye]) ++ rfs r
end
section
def PT.size : PT → Nat
 | .stop => 0
 | .ask _ n y => 1 + n.size + y.size
def rot (P : List C3) : Int := if P = [] then -1 else 0
end
section
attribute [-simp] DV.cells
attribute [local simp] sliceD cells_st cells_sl cells_i cells_y cells_b cells_s cells_w
theorem lend_e3 (P : List C3) : lendL (P.map e3) = P.map e3 := by rw [lendL_map,List.map_map]; rfl
theorem adopt_e3 (o : Bool) (P : List C3) : adoptL o (P.map e3) = P.map e3 := by rw [adoptL_map,List.map_map]; rfl
theorem new_e3 (P : List C3) : allNewL (P.map e3) = true := by rw [allNewL_all,List.all_map,List.all_eq_true]; intro x _; rfl
theorem al_e3 (P : List C3) : allOldL (P.map e3) = true := by rw [allOldL_all,List.all_map,List.all_eq_true]; intro x _; rfl
theorem lt_e3 (n : Nat) (P : List C3) : lendL (List.take n (P.map e3)) = List.take n (P.map e3) := by rw [← List.map_take,lend_e3]
attribute [local simp] lend_e3 adopt_e3 new_e3 al_e3 lt_e3
def C3.nx (c : C3) (b : Bool) : Int := if b then c.2.2 else c.2.1
end
section
attribute [-simp] DV.cells sliceD
attribute [local simp] cells_st cells_sl cells_i cells_y cells_b cells_s cells_w
theorem bPl_up {us t : List T} (h : us.all tOk = true) : ∀ (f : Nat) (ks : List Int),ks.length = us.length → ks.all kOk = true → uk ks ≤ f → (bPl us t f ks).1 ≤ 9 * f * wk us ks
 | 0,ks,hl,hk,hu => by simp [bPl]
 | f + 1,ks,hl,hk,hu => by
  have B := bPl_ok (t := t) h (f + 1) ks hl hk hu
  have w := (wk_bound (ts := us) (ks := ks) h).1
  cases hf : fcd us.length t ks with
  | true =>
   rw [B.stop hf]
   exact Int.mul_nonneg (Int.mul_nonneg (by omega) (by omega)) (by omega)
  | false =>
   obtain ⟨k,k1,_,k3,_⟩ := B.go hf
   rw [k3,Nat.add_sub_cancel]
   have us' := fun b : Bool => uk_set (b := bI b) (by cases b <;> simp [bI]) k1
   have i0 := bPl_up (t := t) h f (ks.set k (bI false)) (by simpa using hl) (kOk_set hk k false) (by have := us' false; omega)
   have i1 := bPl_up (t := t) h f (ks.set k (bI true)) (by simpa using hl) (kOk_set hk k true) (by have := us' true; omega)
   rw [bI_0] at i0
   rw [bI_1] at i1
   have tw := wk_two hl k1
   have cb := (cA_nn h k).2.2
   have m1 : wk us ks * cA us k ≤ wk us ks * 9 := Int.mul_le_mul_of_nonneg_left cb (by omega)
   unfold bS
   have e : 9 * ((f : Int) + 1) * wk us ks = 9 * f * wk us (ks.set k 0) + 9 * f * wk us (ks.set k 1) + wk us ks * 9 := by
    rw [← Int.mul_add,tw,Int.mul_add,Int.add_mul,Int.mul_one]
    omega
   have e' : ((f + 1 : Nat) : Int) = (f : Int) + 1 := by omega
   rw [e',e]
   omega
end
section
attribute [-simp] DV.cells sliceD
attribute [local simp] cells_st cells_sl cells_i cells_y cells_b cells_s cells_w
attribute [local simp] lend_e3 adopt_e3 new_e3 al_e3 lt_e3
def baOf (us t : List T) : Int := if tsOk us && tmOk us.length t then bA us t else -1
end
section
def aN : List Int → Nat
 | [] => 0
 | k :: r => (if k = -1 then 0 else 1) + 2 * aN r
def kn : List Int → Nat
 | [] => 0
 | k :: r => (if k = -1 then 0 else 1) + kn r
theorem kn_uk : ∀ ks : List Int,kn ks + uk ks = ks.length
 | [] => rfl
 | k :: r => by
  have ih := kn_uk r
  simp only [kn,uk,List.length_cons]
  split <;> omega
theorem aN_lt : ∀ ks : List Int,aN ks < 2 ^ ks.length
 | [] => by decide
 | k :: r => by
  have ih := aN_lt r
  simp only [aN,List.length_cons,Nat.pow_succ]
  split <;> omega
theorem aN_non : ∀ m : Nat,aN (non m) = 0
 | 0 => rfl
 | m + 1 => by
  show (if (-1 : Int) = -1 then 0 else 1) + 2 * aN (non m) = 0
  rw [aN_non m]
  rfl
theorem aN_b0 (k : Int) (r : List Int) : (aN (k :: r)).testBit 0 = !decide (k = -1) := by
 simp only [aN,Nat.testBit_zero]
 by_cases h : k = -1
 ·simp [h]
 ·simp [h]
theorem aN_div (k : Int) (r : List Int) : aN (k :: r) / 2 = aN r := by
 simp only [aN]
 split <;> omega
theorem aN_bs (k : Int) (r : List Int) (i : Nat) : (aN (k :: r)).testBit (i + 1) = (aN r).testBit i := by
 rw [Nat.testBit_succ,aN_div]
theorem aN_bit : ∀ {ks : List Int} {i : Nat},i < ks.length → ((aN ks).testBit i = !decide (ks[i]? = some (-1)))
 | [],i,h => by simp at h
 | k :: r,0,_ => by rw [aN_b0]; simp
 | k :: r,i + 1,h => by
  rw [aN_bs,aN_bit (ks := r) (by simpa using h)]
  simp
theorem aN_set {ks : List Int} {k : Nat} {b : Int} (hb : b ≠ -1) (h : ks[k]? = some (-1)) : aN (ks.set k b) = aN ks ||| 2 ^ k := by
 apply Nat.eq_of_testBit_eq
 intro i
 have hk := ks_ex h
 rw [Nat.testBit_or,Nat.testBit_two_pow]
 by_cases hi : i < ks.length
 ·rw [aN_bit (by simpa using hi),aN_bit hi]
  by_cases e : k = i
  ·subst e
   rw [List.getElem?_set_self hk]
   simp [hb]
  ·rw [List.getElem?_set_ne e]
   simp [e]
 ·have l1 := aN_lt (ks.set k b)
  have l2 := aN_lt ks
  rw [List.length_set] at l1
  have p : 2 ^ ks.length ≤ 2 ^ i := Nat.pow_le_pow_right (by omega) (by omega)
  rw [Nat.testBit_lt_two_pow (by omega),Nat.testBit_lt_two_pow (by omega)]
  simp; omega
/-- how many ones there are,for small numbers -/
def pc (x : Nat) : Nat := x % 2 + x / 2 % 2 + x / 4 % 2 + x / 8 % 2 + x / 16 % 2
theorem pc_kn {ks : List Int} (h : ks.length ≤ 5) : pc (aN ks) = kn ks := by
 have key : ∀ k : Int,(if k = -1 then (0 : Nat) else 1) = 0 ∨ (if k = -1 then (0 : Nat) else 1) = 1 := fun k => by split <;> simp
 unfold pc
 match ks,h with
 | [],_ => rfl
 | [a],_ =>
  simp only [aN,kn]
  have hx := key a
  generalize (if a = -1 then (0 : Nat) else 1) = x at *
  rcases hx with rfl | rfl <;> rfl
 | [a,b],_ =>
  simp only [aN,kn]
  have hx := key a
  generalize (if a = -1 then (0 : Nat) else 1) = x at *
  have hy := key b
  generalize (if b = -1 then (0 : Nat) else 1) = y at *
  rcases hx with rfl | rfl <;> rcases hy with rfl | rfl <;> rfl
 | [a,b,c],_ =>
  simp only [aN,kn]
  have hx := key a
  generalize (if a = -1 then (0 : Nat) else 1) = x at *
  have hy := key b
  generalize (if b = -1 then (0 : Nat) else 1) = y at *
  have hz := key c
  generalize (if c = -1 then (0 : Nat) else 1) = z at *
  rcases hx with rfl | rfl <;> rcases hy with rfl | rfl <;> rcases hz with rfl | rfl <;> rfl
 | [a,b,c,d],_ =>
  simp only [aN,kn]
  have hx := key a
  generalize (if a = -1 then (0 : Nat) else 1) = x at *
  have hy := key b
  generalize (if b = -1 then (0 : Nat) else 1) = y at *
  have hz := key c
  generalize (if c = -1 then (0 : Nat) else 1) = z at *
  have hu := key d
  generalize (if d = -1 then (0 : Nat) else 1) = u at *
  rcases hx with rfl | rfl <;> rcases hy with rfl | rfl <;> rcases hz with rfl | rfl <;> rcases hu with rfl | rfl <;> rfl
 | [a,b,c,d,e],_ =>
  simp only [aN,kn]
  have hx := key a
  generalize (if a = -1 then (0 : Nat) else 1) = x at *
  have hy := key b
  generalize (if b = -1 then (0 : Nat) else 1) = y at *
  have hz := key c
  generalize (if c = -1 then (0 : Nat) else 1) = z at *
  have hu := key d
  generalize (if d = -1 then (0 : Nat) else 1) = u at *
  have hv := key e
  generalize (if e = -1 then (0 : Nat) else 1) = v at *
  rcases hx with rfl | rfl <;> rcases hy with rfl | rfl <;> rcases hz with rfl | rfl <;> rcases hu with rfl | rfl <;> rcases hv with rfl | rfl <;> rfl
 | _ :: _ :: _ :: _ :: _ :: _ :: _,h => simp at h
/-- what agrees,as a number -/
def lfW (ks : List Int) : BitVec 32 := agW ks 0 (4294967295#32)
theorem lfW_bit {ks : List Int} (hk : ks.all kOk = true) (hl : ks.length ≤ 5) {s : Nat} (hs : s < 32) : (lfW ks).getLsbD s = agB ks s := by
 unfold lfW
 rw [agW_bit hk (by omega) hs,ones_bit hs]
 simp
theorem lfW_non (m : Nat) (hm : m ≤ 5) : lfW (non m) = 4294967295#32 := by
 apply BitVec.eq_of_getLsbD_eq
 intro s hs
 rw [lfW_bit (non_all m) (by rw [non_len]; exact hm) hs,agB_non,ones_bit hs]
def syW (k : Nat) (b : Bool) : BitVec 32 := if b then yesW k else ~~~ yesW k
theorem lfW_set {ks : List Int} {k : Nat} (b : Bool) (hk : ks.all kOk = true) (hl : ks.length ≤ 5) (h : ks[k]? = some (-1)) : lfW (ks.set k (bI b)) = lfW ks &&& syW k b := by
 have hk5 := ks_ex h
 apply BitVec.eq_of_getLsbD_eq
 intro s hs
 have y := yes_bit ⟨k,by omega⟩ ⟨s,hs⟩
 simp only at y
 rw [lfW_bit (kOk_set hk k b) (by simpa using hl) hs,agB_put h,BitVec.getLsbD_and,lfW_bit hk hl hs]
 unfold syW
 cases b with
 | true => rw [if_pos rfl,y]; cases agB ks s <;> cases s.testBit k <;> rfl
 | false =>
  rw [if_neg (by simp),BitVec.getLsbD_not,y]
  cases agB ks s <;> cases s.testBit k <;> simp [hs]
theorem vaW_fcd {m : Nat} {t : List T} {ks : List Int} (h1 : tmOk m t = true) (hl : ks.length = m) (hk : ks.all kOk = true) : vaW (tsW t) (lfW ks) = foT m t ks := by
 obtain ⟨h3,_,_⟩ := tmOk_iff.1 h1
 exact vaW_foT h1 (ksOk_iff.2 ⟨h3,by omega,hk⟩)
end
section
abbrev Pts := List (Option (List Int))
/-- one goes on to where it is noted -/
def go3 (m : Nat) (t : List T) (N : Nat) (pts : Pts) (p : Int) (a : Int) (ks : List Int) : Prop :=
 (a = -1 ∧ fcd m t ks = true) ∨ (p + 1 ≤ a ∧ a ≤ (N : Int) - 1 ∧ pts[a.toNat]? = some (some ks))
structure Inv (m : Nat) (t : List T) (P : List C3) (p : Nat) (pts : Pts) : Prop where
 len : pts.length = P.length
 nd : (rfs (P.take p)).Nodup
 rng : ∀ a ∈ rfs (P.take p),1 ≤ a ∧ a < P.length
 iff_ : ∀ a : Nat,a < P.length → (pts[a]? ≠ some none ↔ (a = 0 ∨ (a : Int) ∈ rfs (P.take p)))
 ok : ∀ (a : Nat) (ks : List Int),pts[a]? = some (some ks) → ks.length = m ∧ ks.all kOk = true ∧ fcd m t ks = false
 loc : ∀ q : Nat,q < p → ∃ (ks : List Int) (k no ye : Int),P[q]? = some (k,no,ye) ∧ pts[q]? = some (some ks) ∧ (0 ≤ k ∧ k < m) ∧ ks[k.toNat]? = some (-1) ∧ go3 m t P.length pts q no (ks.set k.toNat 0) ∧ go3 m t P.length pts q ye (ks.set k.toNat 1)
end
section
attribute [-simp] DV.cells
attribute [local simp] sliceD cells_st cells_sl cells_i cells_y cells_b cells_s cells_w
attribute [local simp] lend_e3 adopt_e3 new_e3 al_e3 lt_e3
def pv (m a : Int) (w v : BitVec 32) : DV := .st [.i m,.i a,.w w,.w v]
/-- the point at which so much is known -/
def pD (m : Nat) (t : List T) (ks : List Int) : DV := pv m (aN ks) (lfW ks) (tsW t)
/-- 64 bits: how many are ones -/
theorem c_OnesCount64 {n : Nat} (h : n < 32) : call lf n_math_bits_OnesCount64 [.q n] = some (.i (pc n),[]) := by
 rw [call_k lf n_math_bits_OnesCount64 _ (F := F_math_bits_OnesCount64) rfl rfl]
 have c : n = 0 ∨ n = 1 ∨ n = 2 ∨ n = 3 ∨ n = 4 ∨ n = 5 ∨ n = 6 ∨ n = 7 ∨ n = 8 ∨ n = 9 ∨ n = 10 ∨ n = 11 ∨ n = 12 ∨ n = 13 ∨ n = 14 ∨ n = 15 ∨ n = 16 ∨ n = 17 ∨ n = 18 ∨ n = 19 ∨ n = 20 ∨ n = 21 ∨ n = 22 ∨ n = 23 ∨ n = 24 ∨ n = 25 ∨ n = 26 ∨ n = 27 ∨ n = 28 ∨ n = 29 ∨ n = 30 ∨ n = 31 := by omega
 rcases c with rfl | rfl | rfl | rfl | rfl | rfl | rfl | rfl | rfl | rfl | rfl | rfl | rfl | rfl | rfl | rfl | rfl | rfl | rfl | rfl | rfl | rfl | rfl | rfl | rfl | rfl | rfl | rfl | rfl | rfl | rfl | rfl <;>
  simp [F_math_bits_OnesCount64,pc,andI,wr,Go.IntKind.wrap,Go.IntKind.signed,Go.IntKind.bits]
theorem c_OnesCount {n : Nat} (h : n < 32) : call lf n_math_bits_OnesCount [.q n] = some (.i (pc n),[]) := by
 have C := c_OnesCount64 h
 rw [call_k lf n_math_bits_OnesCount _ (F := F_math_bits_OnesCount) rfl rfl]
 simp [F_math_bits_OnesCount,C]
theorem c_impl_sizeOf {n : Nat} (h : n < 32) : call lf n_impl_sizeOf [.i n] = some (.i (pc n),[]) := by
 have C := c_OnesCount h
 have e : ((n : Int) % 18446744073709551616).toNat = n := by omega
 rw [call_k lf n_impl_sizeOf _ (F := F_impl_sizeOf) rfl rfl]
 simp [F_impl_sizeOf,C,e]
theorem c_howMany {m : Nat} {t : List T} {ks : List Int} (hl : ks.length ≤ 5) : call lf n_impl_point_howManyAsked [pD m t ks] = some (.i (kn ks),[]) := by
 have l := aN_lt ks
 have p : 2 ^ ks.length ≤ 2 ^ 5 := Nat.pow_le_pow_right (by omega) hl
 have C := c_impl_sizeOf (n := aN ks) (by omega)
 rw [pc_kn hl] at C
 unfold pD pv
 rw [call_k lf n_impl_point_howManyAsked _ (F := F_impl_point_howManyAsked) rfl rfl]
 generalize aN ks = a at *
 simp [F_impl_point_howManyAsked,C]
theorem c_value {m : Nat} {t : List T} {ks : List Int} (h1 : tmOk m t = true) (hl : ks.length = m) (hk : ks.all kOk = true) : call lf n_impl_point_value [pD m t ks] = some (.i (foT m t ks),[]) := by
 have C := c_impl_valueAmong (tsW t) (lfW ks)
 rw [vaW_fcd h1 hl hk] at C
 unfold pD pv
 rw [call_k lf n_impl_point_value _ (F := F_impl_point_value) rfl rfl]
 simp [F_impl_point_value,C]
theorem c_isForced {m : Nat} {t : List T} {ks : List Int} (h1 : tmOk m t = true) (hl : ks.length = m) (hk : ks.all kOk = true) : call lf n_impl_point_isForced [pD m t ks] = some (.b (fcd m t ks),[]) := by
 have C := c_value h1 hl hk
 unfold pD pv at *
 rw [call_k lf n_impl_point_isForced _ (F := F_impl_point_isForced) rfl rfl]
 unfold fcd
 simp [F_impl_point_isForced,C]
/-- may it be asked? -/
def caK (m : Nat) (ks : List Int) (a : Int) : Bool := decide (0 ≤ a ∧ a < m) && decide (ks[a.toNat]? = some (-1))
theorem c_canAsk {m : Nat} {t : List T} {ks : List Int} (hm : m ≤ 5) (hl : ks.length = m) (a : Int) : call lf n_impl_point_canAsk [pD m t ks,.i a] = some (.b (caK m ks a),[]) := by
 have W := c_impl_isWithin a 0 ((m : Int) - 1)
 have w1 : wr ((m : Int) - 1) = (m : Int) - 1 := wr_id (by omega) (by omega)
 unfold pD pv
 rw [call_k lf n_impl_point_canAsk _ (F := F_impl_point_canAsk) rfl rfl]
 unfold caK
 by_cases h : 0 ≤ a ∧ a < m
 ·obtain ⟨k,rfl⟩ := Int.eq_ofNat_of_zero_le h.1
  have e : decide (0 ≤ (k : Int) ∧ (k : Int) ≤ (m : Int) - 1) = true := decide_eq_true ⟨h.1,by omega⟩
  have H := c_impl_hasTest (aN ks) k (by omega)
  have hb := aN_bit (ks := ks) (i := k) (by omega)
  rw [hb] at H
  rw [e] at W
  rw [decide_eq_true h,Int.toNat_natCast]
  generalize aN ks = x at *
  generalize lfW ks = y at *
  simp [F_impl_point_canAsk,w1,W,H]
 ·have e : decide (0 ≤ a ∧ a ≤ (m : Int) - 1) = false := decide_eq_false (by omega)
  rw [e] at W
  rw [decide_eq_false h]
  simp [F_impl_point_canAsk,w1,W]
theorem c_answered {m : Nat} {t : List T} {ks : List Int} {k : Nat} (b : Bool) (hl : ks.length ≤ 5) (hk : ks.all kOk = true) (h : ks[k]? = some (-1)) : call lf n_impl_point_answered [pD m t ks,.i k,.i (bI b)] = some (pD m t (ks.set k (bI b)),[]) := by
 have hlt := ks_ex h
 have C := c_impl_statesSaying (k := k) (by omega) (bI b)
 have e1 : syI k (bI b) = syW k b := by cases b <;> rfl
 rw [e1] at C
 have sh := shl1 (k := (k : Int)) (by omega) (by omega)
 have nk : ¬ (k : Int) < 0 := by omega
 have l := aN_lt ks
 have p : 2 ^ ks.length ≤ 2 ^ 5 := Nat.pow_le_pow_right (by omega) hl
 have p2 : 2 ^ k ≤ 2 ^ 5 := Nat.pow_le_pow_right (by omega) (by omega)
 have o := orI_nat (a := aN ks) (b := 2 ^ k) (by omega) (by omega)
 rw [← aN_set (b := bI b) (by cases b <;> simp [bI]) h] at o
 have e2 := lfW_set b hk hl h
 unfold pD pv
 rw [call_k lf n_impl_point_answered _ (F := F_impl_point_answered) rfl rfl]
 rw [e2]
 have o' : orI (aN ks) (2 ^ k) = aN (ks.set k (bI b)) := by
  have : ((2 ^ k : Nat) : Int) = 2 ^ k := by simp
  rw [← this]; exact o
 rw [Int.toNat_natCast] at sh
 generalize aN (ks.set k (bI b)) = x at *
 generalize aN ks = y at *
 generalize lfW ks = z at *
 generalize (2 : Int) ^ k = w at *
 simp [F_impl_point_answered,C,sh,nk,o']
theorem c_startOf {m : Nat} {t : List T} (hm : m ≤ 5) (h : tmOk m t = true) : call lf n_impl_startOf [.i m,.sl 0 (t.map e2)] = some (pD m t (non m),[]) := by
 have C := c_impl_trueStates h
 unfold pD pv
 rw [aN_non,lfW_non m hm]
 rw [call_k lf n_impl_startOf _ (F := F_impl_startOf) rfl rfl]
 simp [F_impl_startOf,C]
end
section
attribute [-simp] DV.cells
attribute [local simp] sliceD cells_st cells_sl cells_i cells_y cells_b cells_s cells_w
attribute [local simp] lend_e3 adopt_e3 new_e3 al_e3 lt_e3
def e4 (m : Nat) (t : List T) : Option (List Int) → DV
 | some ks => pD m t ks
 | none => pv 0 0 (0#32) (0#32)
end
section
attribute [-simp] DV.cells
attribute [local simp] sliceD cells_st cells_sl cells_i cells_y cells_b cells_s cells_w
attribute [local simp] lend_e3 adopt_e3 new_e3 al_e3 lt_e3
structure Fin (m : Nat) (t : List T) (P : List C3) (L : LT) (pts : Pts) : Prop where
 inv : Inv m t P P.length pts
 start : go3 m t P.length pts (-1) (rot P) (non m)
end
section
def lsB (S : Nat → Int) (ks : List Int) : Nat → Int × Int
 | 0 => (-1,0)
 | i + 1 => if ks[i]? = some (-1) then (if (lsB S ks i).1 = -1 ∨ S i < (lsB S ks i).2 then ((i : Int),S i) else lsB S ks i) else lsB S ks i
def lsF (m : Nat) (t : List T) (pr : List Int → Nat → Int → Int → Int) : Nat → List Int → Int × Int
 | 0,_ => (-1,0)
 | f + 1,ks => if fcd m t ks = true then (-1,0) else lsB (fun k => pr ks k (lsF m t pr f (ks.set k 0)).2 (lsF m t pr f (ks.set k 1)).2) ks m
theorem lsB_lp {S S' : Nat → Int} {ks : List Int} {c : Int} (hc : 1 ≤ c) (h : ∀ k,ks[k]? = some (-1) → 0 ≤ S k ∧ S' k = c * S k) : ∀ i : Nat,
  (lsB S ks i = (-1,0) ∧ lpB S' ks i = (-1,-1)) ∨ ∃ k : Nat,k < i ∧ ks[k]? = some (-1) ∧ lsB S ks i = ((k : Int),S k) ∧ lpB S' ks i = (S' k,(k : Int))
 | 0 => .inl ⟨rfl,rfl⟩
 | i + 1 => by
  simp only [lsB,lpB]
  by_cases hi : ks[i]? = some (-1)
  ·rw [if_pos hi,if_pos hi]
   right
   rcases lsB_lp hc h i with ⟨e1,e2⟩ | ⟨k,k1,k2,e1,e2⟩
   ·rw [e1,e2,if_pos (.inl rfl),if_pos (.inl (by show (-1 : Int) < 0; omega))]
    exact ⟨i,by omega,hi,rfl,rfl⟩
   ·rw [e1,e2]
    obtain ⟨a0,a1⟩ := h i hi
    obtain ⟨b0,b1⟩ := h k k2
    have bn : 0 ≤ S' k := by rw [b1]; exact Int.mul_nonneg (by omega) b0
    have q : S' i < S' k ↔ S i < S k := by
     rw [a1,b1]
     constructor
     ·intro hx
      exact Int.lt_of_mul_lt_mul_left hx (by omega)
     ·intro hx
      exact Int.mul_lt_mul_of_pos_left hx (by omega)
    by_cases hx : S i < S k
    ·rw [if_pos (.inr hx),if_pos (.inr (q.2 hx))]
     exact ⟨i,by omega,hi,rfl,rfl⟩
    ·rw [if_neg (by rintro (h | h); exact absurd h (by show ¬ (k : Int) = -1; omega); exact hx h),if_neg (by rintro (h | h); exact absurd h (by show ¬ S' k < 0; omega); exact hx (q.1 h))]
     exact ⟨k,by omega,k2,rfl,rfl⟩
  ·rw [if_neg hi,if_neg hi]
   rcases lsB_lp hc h i with e | ⟨k,k1,k2,e1,e2⟩
   ·exact .inl e
   ·exact .inr ⟨k,by omega,k2,e1,e2⟩
/-- the weight of what is known -/
def kp : List T → List Int → Int
 | t :: r,k :: ks => (if k = -1 then 1 else if k = 1 then t.2 else 6 - t.2) * kp r ks
 | _,_ => 1
theorem kp_wk : ∀ {us : List T} {ks : List Int},ks.length = us.length → wk us ks = kp us ks * 6 ^ uk ks
 | [],[],_ => rfl
 | [],_ :: _,h => by simp at h
 | _ :: _,[],h => by simp at h
 | t :: us,k :: ks,h => by
  have ih := kp_wk (us := us) (ks := ks) (by simpa using h)
  show (if k = -1 then 6 else if k = 1 then t.2 else 6 - t.2) * wk us ks = (if k = -1 then 1 else if k = 1 then t.2 else 6 - t.2) * kp us ks * 6 ^ uk (k :: ks)
  rw [ih]
  by_cases e : k = -1
  ·have : uk (k :: ks) = uk ks + 1 := by simp only [uk]; rw [if_pos e]; omega
   rw [if_pos e,if_pos e,this,Int.pow_succ,Int.one_mul,Int.mul_comm 6,Int.mul_assoc]
  ·have : uk (k :: ks) = uk ks := by simp only [uk]; rw [if_neg e]; omega
   rw [if_neg e,if_neg e,this,Int.mul_assoc]
theorem kp_pos : ∀ {us : List T} {ks : List Int},us.all tOk = true → 1 ≤ kp us ks
 | [],ks,_ => by simp [kp]
 | t :: us,[],_ => by simp [kp]
 | t :: us,k :: ks,h => by
  simp only [List.all_cons,Bool.and_eq_true] at h
  have ih := kp_pos (us := us) (ks := ks) h.2
  have ht := (tOk_iff.1 h.1).2
  have c : 1 ≤ (if k = -1 then 1 else if k = 1 then t.2 else 6 - t.2) := by
   split
   ·omega
   ·split <;> omega
  have := Int.mul_le_mul c ih (by omega) (by omega)
  simpa [kp] using this
theorem kp_put : ∀ {us : List T} {ks : List Int} {k : Nat},ks.length = us.length → ks[k]? = some (-1) →
  kp us (ks.set k 0) = kp us ks * (6 - (us.getD k (0,0)).2) ∧ kp us (ks.set k 1) = kp us ks * (us.getD k (0,0)).2
 | _,[],k,_,h => by simp at h
 | [],x :: r,k,hl,h => by simp at hl
 | t :: us,x :: r,0,hl,h => by
  simp only [List.getElem?_cons_zero,Option.some.injEq] at h
  subst h
  have e : kp (t :: us) (-1 :: r) = kp us r := by simp [kp]
  rw [e]
  refine ⟨?_,?_⟩
  ·show (6 - t.2) * kp us r = _
   rw [Int.mul_comm]; rfl
  ·show t.2 * kp us r = _
   rw [Int.mul_comm]; rfl
 | t :: us,x :: r,k + 1,hl,h => by
  simp only [List.getElem?_cons_succ] at h
  obtain ⟨h2,h3⟩ := kp_put (us := us) (by simpa using hl) h
  have e : ∀ ks : List Int,kp (t :: us) (x :: ks) = (if x = -1 then 1 else if x = 1 then t.2 else 6 - t.2) * kp us ks := fun _ => rfl
  generalize hc : (if x = -1 then 1 else if x = 1 then t.2 else 6 - t.2) = c at e
  have g : (t :: us).getD (k + 1) (0,0) = us.getD k (0,0) := by simp [List.getD]
  rw [g]
  refine ⟨?_,?_⟩
  ·rw [List.set_cons_succ,e,e,h2,Int.mul_assoc]
  ·rw [List.set_cons_succ,e,e,h3,Int.mul_assoc]
theorem kp_non : ∀ us : List T,kp us (non us.length) = 1
 | [] => rfl
 | t :: us => by
  show (if (-1 : Int) = -1 then 1 else _) * kp us (non us.length) = 1
  rw [if_pos rfl,kp_non us]
  rfl
/-- what asking costs on average,in parts -/
def avQ (us : List T) (ks : List Int) (k : Nat) (no yes : Int) : Int := cA us k * 6 ^ uk ks + (6 - (us.getD k (0,0)).2) * no + (us.getD k (0,0)).2 * yes
theorem lsF_bPl {us t : List T} (h : us.all tOk = true) : ∀ (f : Nat) (ks : List Int),ks.length = us.length → ks.all kOk = true → uk ks ≤ f →
  0 ≤ (lsF us.length t (avQ us) f ks).2 ∧ kp us ks * (lsF us.length t (avQ us) f ks).2 = (bPl us t f ks).1 ∧ (lsF us.length t (avQ us) f ks).1 = (bPl us t f ks).2
 | 0,ks,hl,hk,hu => by
  simp only [lsF,bPl]
  exact ⟨Int.le_refl _,by simp,by simp⟩
 | f + 1,ks,hl,hk,hu => by
  simp only [lsF,bPl]
  cases hc : fcd us.length t ks with
  | true => rw [if_pos rfl,if_pos rfl]; exact ⟨Int.le_refl _,by simp,rfl⟩
  | false =>
   rw [if_neg (by simp),if_neg (by simp)]
   have key : ∀ k,ks[k]? = some (-1) → 0 ≤ avQ us ks k (lsF us.length t (avQ us) f (ks.set k 0)).2 (lsF us.length t (avQ us) f (ks.set k 1)).2 ∧
     wk us ks * cA us k + (bPl us t f (ks.set k 0)).1 + (bPl us t f (ks.set k 1)).1 = kp us ks * avQ us ks k (lsF us.length t (avQ us) f (ks.set k 0)).2 (lsF us.length t (avQ us) f (ks.set k 1)).2 := fun k hkk => by
    have u := fun (b : Bool) => uk_set (b := bI b) (by cases b <;> simp [bI]) hkk
    have u0 := u false
    have u1 := u true
    rw [bI_0] at u0
    rw [bI_1] at u1
    obtain ⟨a1,a2,_⟩ := lsF_bPl h (t := t) f (ks.set k 0) (by simpa using hl) (kOk_set hk k false) (by omega)
    obtain ⟨b1,b2,_⟩ := lsF_bPl h (t := t) f (ks.set k 1) (by simpa using hl) (kOk_set hk k true) (by omega)
    obtain ⟨p0,p1⟩ := kp_put hl hkk
    rw [← a2,← b2,p0,p1,kp_wk hl]
    have kl := ks_ex hkk
    have tq : 1 ≤ (us.getD k (0,0)).2 ∧ (us.getD k (0,0)).2 ≤ 5 := by
     have hlt : k < us.length := by omega
     have e : us.getD k (0,0) = us[k] := by simp [List.getD,hlt]
     have := tOk_iff.1 (List.all_eq_true.1 h us[k] (List.getElem_mem hlt))
     rw [← e] at this
     exact this.2
    have c0 := cA_nn' h k
    have pp : (0 : Int) ≤ 6 ^ uk ks := Int.le_of_lt (Int.pow_pos (by omega))
    generalize (lsF us.length t (avQ us) f (ks.set k 0)).2 = x at *
    generalize (lsF us.length t (avQ us) f (ks.set k 1)).2 = y at *
    unfold avQ
    generalize (us.getD k (0,0)).2 = q at *
    generalize cA us k = c at *
    generalize (6 : Int) ^ uk ks = w at *
    generalize kp us ks = K at *
    refine ⟨?_,?_⟩
    ·have m1 := Int.mul_nonneg c0 pp
     have m2 := Int.mul_nonneg (show (0 : Int) ≤ 6 - q by omega) a1
     have m3 := Int.mul_nonneg (show (0 : Int) ≤ q by omega) b1
     omega
    ·rw [Int.mul_add,Int.mul_add,Int.mul_assoc K (6 - q) x,Int.mul_assoc K q y,Int.mul_assoc K w c,Int.mul_comm w c]
   rcases lsB_lp (kp_pos (ks := ks) h) key us.length with ⟨e1,e2⟩ | ⟨k,k1,k2,e1,e2⟩
   ·exfalso
    have up : 0 < uk ks := by
     apply Nat.pos_of_ne_zero
     intro e
     rw [fcd_all hl hk e] at hc
     cases hc
    have B := bPl_ok (t := t) h (f + 1) ks hl hk hu
    obtain ⟨k,k1,k2,_⟩ := B.go hc
    simp only [bPl] at k2
    rw [if_neg (by rw [hc]; simp),e2] at k2
    simp only at k2
    omega
   ·rw [e1,e2]
    exact ⟨(key k k2).1,(key k k2).2.symm,rfl⟩
theorem lsF_up {us t : List T} (h : us.all tOk = true) (hm : us.length ≤ 5) {f : Nat} {ks : List Int} (hl : ks.length = us.length) (hk : ks.all kOk = true) (hu : uk ks ≤ f) (hf : f ≤ 5) : (lsF us.length t (avQ us) f ks).2 ≤ 349920 := by
 obtain ⟨a1,a2,_⟩ := lsF_bPl h (t := t) f ks hl hk hu
 have b := bPl_up h (t := t) f ks hl hk hu
 have kpp := kp_pos (ks := ks) h
 rw [← a2,kp_wk hl] at b
 have ul := uk_le ks
 have p := p6 (n := uk ks) (by omega)
 have : (lsF us.length t (avQ us) f ks).2 ≤ 9 * f * 6 ^ uk ks := by
  refine Int.le_of_mul_le_mul_left (a := kp us ks) ?_ (by omega)
  rw [show kp us ks * (9 * (f : Int) * 6 ^ uk ks) = 9 * f * (kp us ks * 6 ^ uk ks) by rw [Int.mul_left_comm]]
  exact b
 have q : 9 * (f : Int) * 6 ^ uk ks ≤ 45 * 7776 := Int.mul_le_mul (by omega) p.2 (by omega) (by omega)
 omega
end
section
attribute [-simp] DV.cells
attribute [local simp] sliceD cells_st cells_sl cells_i cells_y cells_b cells_s cells_w
theorem c_impl_wholeOf {n : Nat} (hn : n ≤ 5) : call lf n_impl_wholeOf [.i n] = some (.i (6 ^ n),[]) := by
 rw [call_k lf n_impl_wholeOf _ (F := F_impl_wholeOf) rfl rfl]
 have L := loop_count (lf := lf) (L := F_impl_wholeOf_L0) n (fun i => ⟨[(3,.i (6 ^ i)),(4,.i n),(5,.i i)],[]⟩) (x := .exit 0) (R := ⟨[(3,.i (6 ^ n)),(4,.i n),(5,.i n)],[]⟩) (fun i hi => by
  have p := p6 (n := i) (by omega)
  have w1 : wr ((i : Int) + 1) = i + 1 := wr_id (by omega) (by omega)
  have w2 : wr ((6 : Int) ^ i * 6) = 6 ^ i * 6 := wr_id (by omega) (by omega)
  simp [F_impl_wholeOf_L0,hi,w1,w2,Int.pow_succ]) (by simp [F_impl_wholeOf_L0]) (by simp)
 have L' : ex lf F_impl_wholeOf_W0 ⟨[(3,.i 1),(4,.i n),(5,.i 0)],[]⟩ = some (.exit 0,⟨[(3,.i (6 ^ n)),(4,.i n),(5,.i n)],[]⟩) := L
 simp [F_impl_wholeOf,L']
end
section
attribute [-simp] DV.cells
attribute [local simp] sliceD cells_st cells_sl cells_i cells_y cells_b cells_s cells_w
attribute [local simp] lend_e3 adopt_e3 new_e3 al_e3 lt_e3
theorem c_averageAsking {c q no yes : Int} {n : Nat} (hn : n ≤ 5) (hc : 1 ≤ c ∧ c ≤ 9) (hq : 1 ≤ q ∧ q ≤ 5) (h0 : 0 ≤ no ∧ no ≤ 400000) (h1 : 0 ≤ yes ∧ yes ≤ 400000) :
  call lf n_impl_averageAsking [.st [.i c,.i q],.i n,.i no,.i yes] = some (.i (c * 6 ^ n + (6 - q) * no + q * yes),[]) := by
 have W := c_impl_wholeOf hn
 have p := p6 hn
 have b1 : c * 6 ^ n ≤ 9 * 7776 := Int.mul_le_mul hc.2 p.2 (by omega) (by omega)
 have b1' : 0 ≤ c * 6 ^ n := Int.mul_nonneg (by omega) (by omega)
 have b2 : (6 - q) * no ≤ 5 * 400000 := Int.mul_le_mul (by omega) h0.2 h0.1 (by omega)
 have b2' : 0 ≤ (6 - q) * no := Int.mul_nonneg (by omega) h0.1
 have b3 : q * yes ≤ 5 * 400000 := Int.mul_le_mul (by omega) h1.2 h1.1 (by omega)
 have b3' : 0 ≤ q * yes := Int.mul_nonneg (by omega) h1.1
 have w2 : wr (c * 6 ^ n) = c * 6 ^ n := wr_id (by omega) (by omega)
 have w3 : wr (6 - q) = 6 - q := wr_id (by omega) (by omega)
 have w4 : wr ((6 - q) * no) = (6 - q) * no := wr_id (by omega) (by omega)
 have w5 : wr (c * 6 ^ n + (6 - q) * no) = c * 6 ^ n + (6 - q) * no := wr_id (by omega) (by omega)
 have w6 : wr (q * yes) = q * yes := wr_id (by omega) (by omega)
 have w7 : wr (c * 6 ^ n + (6 - q) * no + q * yes) = c * 6 ^ n + (6 - q) * no + q * yes := wr_id (by omega) (by omega)
 rw [call_k lf n_impl_averageAsking _ (F := F_impl_averageAsking) rfl rfl]
 generalize (6 : Int) ^ n = z at *
 simp [F_impl_averageAsking,W,w2,w3,w4,w5,w6,w7]
set_option maxHeartbeats 4000000 in
theorem c_averagesOf_1 {us t : List T} {ks : List Int} (hu : us.all tOk = true) (hm : us.length ≤ 5) (hl : ks.length = us.length) {k : Nat} (hk : k < us.length) {no yes : Int} (h0 : 0 ≤ no ∧ no ≤ 400000) (h1 : 0 ≤ yes ∧ yes ≤ 400000) :
  call lf n_impl_averagesOf_1 [pD us.length t ks,.i k,.i no,.i yes,.adr (.sl 0 (us.map e2))] = some (.i (avQ us ks k no yes),[]) := by
 obtain ⟨c,q,c1,c2,c3⟩ := cA_at (us := us) (a := (k : Int)) (by omega) (by omega)
 rw [Int.toNat_natCast] at c2 c3
 have tq : tOk (c,q) = true := by
  have e : us.getD k (0,0) = us[k] := by simp [List.getD,hk]
  rw [← c3,e]
  exact List.all_eq_true.1 hu us[k] (List.getElem_mem hk)
 have tq := tOk_iff.1 tq
 simp only at tq
 have H := c_howMany (m := us.length) (t := t) (ks := ks) (by omega)
 have kk := kn_uk ks
 have A := c_averageAsking (n := uk ks) (by omega) tq.1 tq.2 h0 h1
 have w1 : wr ((us.length : Int) - kn ks) = (uk ks : Int) := by rw [wr_id (by omega) (by omega)]; omega
 unfold avQ
 rw [c3,← c2]
 simp only
 have ul : (us.map e2).length = us.length := by simp
 have kl : (k : Int) < us.length := by omega
 unfold pD pv at *
 rw [call_k lf n_impl_averagesOf_1 _ (F := F_impl_averagesOf_1) rfl rfl]
 generalize us.map e2 = U at *
 generalize c * 6 ^ uk ks + (6 - q) * no + q * yes = z at *
 generalize uk ks = u at *
 generalize kn ks = v at *
 generalize aN ks = a at *
 simp [F_impl_averagesOf_1,c1,ul,kl,H,A,w1]
theorem c_averagesOf (us : List T) : call lf n_impl_averagesOf [.sl 0 (us.map e2)] = some (.fn n_impl_averagesOf_1 [.adr (.sl 0 (us.map e2))],[]) := by
 rw [call_k lf n_impl_averagesOf _ (F := F_impl_averagesOf) rfl rfl]
 simp [F_impl_averagesOf]
def stLsA (us t : List T) (ks : List Int) (b : Int × Int) (i : Nat) : LS :=
 ⟨[(1,.fn n_impl_averagesOf_1 [.adr (.sl 0 (us.map e2))]),(2,.oad 1056 1 0 0),(6,.i b.1),(7,.i b.2),(19,.i us.length),(20,.i i)],[(1056,[pD us.length t ks])]⟩
set_option maxHeartbeats 8000000 in
theorem c_leastFromA {us t : List T} (hu : us.all tOk = true) (hm : 1 ≤ us.length ∧ us.length ≤ 5) (ht : tmOk us.length t = true) : ∀ (f : Nat) (ks : List Int),f ≤ 5 → ks.length = us.length → ks.all kOk = true → uk ks ≤ f →
  call lf n_impl_leastFrom [pD us.length t ks,.fn n_impl_averagesOf_1 [.adr (.sl 0 (us.map e2))]] = some (.tup [.i (lsF us.length t (avQ us) f ks).1,.i (lsF us.length t (avQ us) f ks).2],[])
 | f,ks,hf5,hl,hk,hf => by
  have F := c_isForced ht hl hk
  cases hc : fcd us.length t ks with
  | true =>
   have e : lsF us.length t (avQ us) f ks = (-1,0) := by
    cases f with
    | zero => rfl
    | succ f => simp only [lsF]; rw [if_pos hc]
   rw [e]
   rw [hc] at F
   unfold pD pv at *
   rw [call_k lf n_impl_leastFrom _ (F := F_impl_leastFrom) rfl rfl]
   simp [F_impl_leastFrom,F]
  | false =>
   cases f with
   | zero =>
    rw [fcd_all hl hk (by omega)] at hc
    cases hc
   | succ f =>
    rw [hc] at F
    have e : lsF us.length t (avQ us) (f + 1) ks = lsB (fun k => (avQ us) ks k (lsF us.length t (avQ us) f (ks.set k 0)).2 (lsF us.length t (avQ us) f (ks.set k 1)).2) ks us.length := by
     simp only [lsF]
     rw [if_neg (by rw [hc]; simp)]
    rw [e]
    have us' := fun (k : Nat) (hkk : ks[k]? = some (-1)) (b : Bool) => uk_set (b := bI b) (by cases b <;> simp [bI]) hkk
    have BD : ∀ (k : Nat) (b : Bool),ks[k]? = some (-1) → 0 ≤ (lsF us.length t (avQ us) f (ks.set k (bI b))).2 ∧ (lsF us.length t (avQ us) f (ks.set k (bI b))).2 ≤ 400000 := fun k b hkk => by
     have := us' k hkk b
     exact ⟨(lsF_bPl hu f (ks.set k (bI b)) (by simpa using hl) (kOk_set hk k b) (by omega)).1,by have := lsF_up (t := t) hu hm.2 (f := f) (ks := ks.set k (bI b)) (by simpa using hl) (kOk_set hk k b) (by omega) (by omega); omega⟩
    generalize hS : (fun k => (avQ us) ks k (lsF us.length t (avQ us) f (ks.set k 0)).2 (lsF us.length t (avQ us) f (ks.set k 1)).2) = S
    have LP := loop_count (lf := lf) (L := F_impl_leastFrom_L0) us.length (fun i => stLsA us t ks (lsB S ks i) i) (x := .exit 0) (R := stLsA us t ks (lsB S ks us.length) us.length) (fun i hi => by
     have C := c_canAsk (m := us.length) (t := t) (ks := ks) (by omega) hl (i : Int)
     have w1 : wr ((i : Int) + 1) = ((i + 1 : Nat) : Int) := by rw [wr_id (by omega) (by omega)]; omega
     have hi' : (i : Int) < (us.length : Int) := by omega
     have eb : lsB S ks (i + 1) = if ks[i]? = some (-1) then (if (lsB S ks i).1 = -1 ∨ S i < (lsB S ks i).2 then ((i : Int),S i) else lsB S ks i) else lsB S ks i := rfl
     have ca : caK us.length ks (i : Int) = decide (ks[i]? = some (-1)) := by
      unfold caK
      rw [decide_eq_true (show 0 ≤ (i : Int) ∧ (i : Int) < (us.length : Int) by omega),Int.toNat_natCast,Bool.true_and]
     rw [ca] at C
     rw [eb]
     by_cases hkk : ks[i]? = some (-1)
     ·rw [if_pos hkk]
      rw [decide_eq_true hkk] at C
      have B0 := c_answered (m := us.length) (t := t) false (by omega) hk hkk
      have B1 := c_answered (m := us.length) (t := t) true (by omega) hk hkk
      have u0 := us' i hkk false
      have u1 := us' i hkk true
      have G0 := c_leastFromA hu hm ht f (ks.set i (bI false)) (by omega) (by simpa using hl) (kOk_set hk i false) (by omega)
      have G1 := c_leastFromA hu hm ht f (ks.set i (bI true)) (by omega) (by simpa using hl) (kOk_set hk i true) (by omega)
      have D0 := BD i false hkk
      have D1 := BD i true hkk
      rw [bI_0] at B0 G0 D0
      rw [bI_1] at B1 G1 D1
      have Pr := c_averagesOf_1 (us := us) (t := t) (ks := ks) hu hm.2 hl (k := i) hi (no := (lsF us.length t (avQ us) f (ks.set i 0)).2) (yes := (lsF us.length t (avQ us) f (ks.set i 1)).2) D0 D1
      have eS : S i = (avQ us) ks i (lsF us.length t (avQ us) f (ks.set i 0)).2 (lsF us.length t (avQ us) f (ks.set i 1)).2 := by rw [← hS]
      rw [← eS] at Pr
      clear BD hS eb
      generalize lsF us.length t (avQ us) f (ks.set i 0) = x at *
      generalize lsF us.length t (avQ us) f (ks.set i 1) = y at *
      obtain ⟨x1,x2⟩ := x
      obtain ⟨y1,y2⟩ := y
      generalize lsB S ks i = b at *
      obtain ⟨b1,b2⟩ := b
      generalize S i = s at *
      simp only at *
      unfold stLsA
      unfold pD pv at *
      by_cases hb : b1 = -1
      ·rw [if_pos (.inl hb)]
       have hb' : (b1 == -1) = true := by simpa using hb
       subst hb
       simp [F_impl_leastFrom_L0,hi,hi',C,B0,B1,G0,G1,Pr,w1,-Int.natCast_add]
      ·have hb' : (b1 == -1) = false := beq_eq_false_iff_ne.2 hb
       by_cases hlt : s < b2
       ·rw [if_pos (.inr hlt)]
        simp [F_impl_leastFrom_L0,hi,hi',C,B0,B1,G0,G1,Pr,w1,hb',hlt,-Int.natCast_add]
       ·rw [if_neg (by rintro (h | h); exact hb h; exact hlt h)]
        simp [F_impl_leastFrom_L0,hi,hi',C,B0,B1,G0,G1,Pr,w1,hb',hlt,-Int.natCast_add]
     ·rw [if_neg hkk]
      rw [decide_eq_false hkk] at C
      clear BD hS eb
      generalize lsB S ks i = b at *
      unfold stLsA
      unfold pD pv at *
      simp [F_impl_leastFrom_L0,hi,hi',C,w1,-Int.natCast_add]) (by
     unfold stLsA
     unfold pD pv at *
     simp [F_impl_leastFrom_L0]) (by simp)
    have z : lsB S ks 0 = (-1,0) := rfl
    rw [z] at LP
    unfold stLsA at LP
    simp only [Int.natCast_zero] at LP
    change ex lf F_impl_leastFrom_W0 _ = _ at LP
    clear BD hS
    unfold pD pv at *
    rw [call_k lf n_impl_leastFrom _ (F := F_impl_leastFrom) rfl rfl]
    generalize lsB S ks us.length = b at *
    simp [F_impl_leastFrom,F,LP]
end
section
attribute [-simp] DV.cells
attribute [local simp] sliceD cells_st cells_sl cells_i cells_y cells_b cells_s cells_w
attribute [local simp] lend_e3 adopt_e3 new_e3 al_e3 lt_e3
theorem lsF_root {us t : List T} (h : us.all tOk = true) : (lsF us.length t (avQ us) us.length (non us.length)).2 = bA us t := by
 obtain ⟨_,a2,_⟩ := lsF_bPl h (t := t) us.length (non us.length) (non_len _) (non_all _) (by rw [uk_non]; exact Nat.le_refl _)
 rw [kp_non,Int.one_mul] at a2
 exact a2
set_option maxHeartbeats 4000000 in
theorem c_impl_BestAverage (us t : List T) (ha : (us.length : Int) < 1099511627776) (hb : (t.length : Int) < 1099511627776) : call lf n_impl_BestAverage [.sl 0 (us.map e2),.sl 0 (t.map e2)] = some (.i (baOf us t),[]) := by
 have C1 := c_impl_TestsOk us ha
 have C2 := c_impl_TermOk us.length t hb
 have ul : (us.map e2).length = us.length := by simp
 rw [call_k lf n_impl_BestAverage _ (F := F_impl_BestAverage) rfl rfl]
 unfold baOf
 cases h1 : tsOk us with
 | false => rw [h1] at C1; simp [F_impl_BestAverage,C1]
 | true =>
  rw [h1] at C1
  have h' := tsOk_iff.1 h1
  cases h2 : tmOk us.length t with
  | false => rw [h2] at C2; simp [F_impl_BestAverage,C1,C2]
  | true =>
   rw [h2] at C2
   have C3 := c_startOf (t := t) (by omega) h2
   have C4 := c_averagesOf us
   have C5 := c_leastFromA h'.2 (by omega) h2 us.length (non us.length) (by omega) (non_len _) (non_all _) (by rw [uk_non]; exact Nat.le_refl _)
   rw [lsF_root h'.2] at C5
   generalize (lsF us.length t (avQ us) us.length (non us.length)).1 = x at *
   unfold pD pv at *
   simp [F_impl_BestAverage,C1,C2,C3,C4,C5]
end
section
def pA (us : List T) (k : Nat) : Int := (us.getD k (0,0)).2
theorem pA_bd {us : List T} (h : us.all tOk = true) {k : Nat} (hk : k < us.length) : 1 ≤ pA us k ∧ pA us k ≤ 5 := by
 unfold pA
 have e : us.getD k (0,0) = us[k] := by simp [List.getD,hk]
 rw [e]
 have := tOk_iff.1 (List.all_eq_true.1 h us[k] (List.getElem_mem hk))
 omega
end
section
theorem wk_nn : ∀ {us : List T},us.all tOk = true → ∀ ks : List Int,0 ≤ wk us ks
 | [],_,ks => by cases ks <;> simp [wk]
 | _ :: _,_,[] => by simp [wk]
 | u :: us,h,k :: ks => by
  rw [List.all_cons,Bool.and_eq_true] at h
  have i := wk_nn h.2 ks
  have a := tOk_iff.1 h.1
  show 0 ≤ (if k = -1 then 6 else if k = 1 then u.2 else 6 - u.2) * wk us ks
  refine Int.mul_nonneg ?_ i
  split
  ·omega
  ·split <;> omega
end
section
structure CS where
 c : Nat → Int
 p : Nat → Int
 q : Nat → Int
 lA : Nat → Nat → Bool
 lB : Nat → Nat → Bool
 ch : List Nat → Nat → Nat
def rk (l : Nat → Nat → Bool) (S : List Nat) (i : Nat) : Nat := S.countP fun x => l x i
def CS.inA (C : CS) (S : List Nat) (k i : Nat) : Prop := rk C.lA S i < k
def CS.inB (C : CS) (S : List Nat) (k i : Nat) : Prop := rk C.lB S i + k ≤ S.length
/-- a strict order of all -/
structure SO (D : Nat → Prop) (l : Nat → Nat → Bool) : Prop where
 asy : ∀ a b,D a → D b → l a b = true → l b a = false
 tr : ∀ a b c,D a → D b → D c → l a b = true → l b c = true → l a c = true
 tot : ∀ a b,D a → D b → a ≠ b → l a b = true ∨ l b a = true
structure CSok (C : CS) (D : Nat → Prop) : Prop where
 c0 : ∀ i,D i → 0 ≤ C.c i
 pq : ∀ i,D i → 0 ≤ C.p i ∧ 0 ≤ C.q i ∧ C.p i + C.q i = 6
 oA : SO D C.lA
 oB : SO D C.lB
 rA : ∀ i j,D i → D j → C.lA i j = true → C.c i * C.p j ≤ C.c j * C.p i
 rB : ∀ i j,D i → D j → C.lB i j = true → C.c i * C.q j ≤ C.c j * C.q i
 ch : ∀ S k,S.Nodup → (∀ x ∈ S,D x) → 1 ≤ k → k ≤ S.length → C.ch S k ∈ S ∧ C.inA S k (C.ch S k) ∧ C.inB S k (C.ch S k)
theorem rk_erase (l : Nat → Nat → Bool) {S : List Nat} {j : Nat} (hj : j ∈ S) (i : Nat) : rk l S i = rk l (S.erase j) i + if l j i = true then 1 else 0 := by
 unfold rk
 rw [(List.perm_cons_erase hj).countP_eq,List.countP_cons]
theorem rk_mono {D : Nat → Prop} {l : Nat → Nat → Bool} (h : SO D l) {S : List Nat} (hS : ∀ x ∈ S,D x) {i j : Nat} (hi : i ∈ S) (dj : D j) (hl : l i j = true) : rk l S i < rk l S j := by
 have di := hS i hi
 have a := rk_erase l hi i
 have b := rk_erase l hi j
 have ii : l i i = false := by
  cases e : l i i with
  | false => rfl
  | true => have := h.asy i i di di e; rw [e] at this; exact this
 rw [ii] at a
 rw [hl] at b
 have m : rk l (S.erase i) i ≤ rk l (S.erase i) j := List.countP_mono_left fun x hx q => h.tr x i j (hS x (List.mem_of_mem_erase hx)) di dj q hl
 simp at a b
 omega
theorem so_max {D : Nat → Prop} {l : Nat → Nat → Bool} (h : SO D l) : ∀ {S : List Nat},S ≠ [] → (∀ x ∈ S,D x) → ∃ M ∈ S,∀ x ∈ S,x ≠ M → l x M = true
 | [],hn,_ => absurd rfl hn
 | [a],_,_ => ⟨a,List.mem_cons_self,fun x hx hne => absurd (List.mem_singleton.1 hx) hne⟩
 | a :: b :: r,_,hS => by
  obtain ⟨M,m1,m2⟩ := so_max h (S := b :: r) (by simp) fun x hx => hS x (List.mem_cons_of_mem _ hx)
  have da := hS a List.mem_cons_self
  have dM := hS M (List.mem_cons_of_mem _ m1)
  by_cases e : a = M
  ·exact ⟨M,List.mem_cons_of_mem _ m1,fun x hx hne => (List.mem_cons.1 hx).elim (fun q => absurd (q.trans e) hne) fun q => m2 x q hne⟩
  ·rcases h.tot a M da dM e with q | q
   ·exact ⟨M,List.mem_cons_of_mem _ m1,fun x hx hne => (List.mem_cons.1 hx).elim (fun z => z ▸ q) fun z => m2 x z hne⟩
   ·refine ⟨a,List.mem_cons_self,fun x hx hne => ?_⟩
    rcases List.mem_cons.1 hx with z | z
    ·exact absurd z hne
    ·by_cases e2 : x = M
     ·rw [e2]; exact q
     ·exact h.tr x M a (hS x hx) dM da (m2 x z e2) q
theorem rk_count {D : Nat → Prop} {l : Nat → Nat → Bool} (h : SO D l) : ∀ (n : Nat) {S : List Nat},S.length = n → S.Nodup → (∀ x ∈ S,D x) → ∀ a,S.countP (fun i => decide (rk l S i < a)) = min a n
 | 0,S,hl,_,_,a => by
  have : S = [] := List.length_eq_zero_iff.1 hl
  subst this
  simp
 | n + 1,S,hl,nd,hS,a => by
  have hne : S ≠ [] := fun e => by rw [e] at hl; cases hl
  obtain ⟨M,m1,m2⟩ := so_max h hne hS
  have le : (S.erase M).length = n := by rw [List.length_erase_of_mem m1,hl]; rfl
  have nde := nd.erase M
  have hSe : ∀ x ∈ S.erase M,D x := fun x hx => hS x (List.mem_of_mem_erase hx)
  have ih := rk_count h n le nde hSe a
  have nM : ∀ x ∈ S.erase M,x ≠ M := fun x hx e => by rw [e] at hx; exact (List.Nodup.not_mem_erase nd) hx
  have rM : rk l S M = n := by
   rw [rk_erase l m1 M]
   have ii : l M M = false := by
    cases e : l M M with
    | false => rfl
    | true => have := h.asy M M (hS M m1) (hS M m1) e; rw [e] at this; exact this
   rw [ii]
   have : rk l (S.erase M) M = (S.erase M).length := List.countP_eq_length.2 fun x hx => m2 x (List.mem_of_mem_erase hx) (nM x hx)
   rw [this,le]
   simp
  rw [(List.perm_cons_erase m1).countP_eq,List.countP_cons,rM]
  have e : (S.erase M).countP (fun i => decide (rk l S i < a)) = (S.erase M).countP (fun i => decide (rk l (S.erase M) i < a)) := by
   refine List.countP_congr fun x hx => ?_
   have := rk_erase l m1 x
   rw [h.asy x M (hSe x hx) (hS M m1) (m2 x (List.mem_of_mem_erase hx) (nM x hx))] at this
   simp at this
   rw [this]
  rw [e,ih]
  by_cases c : n < a
  ·simp [c]; omega
  ·simp [c]; omega
theorem count_two {P Q : Nat → Bool} : ∀ {S : List Nat},(∀ x ∈ S,P x = true → Q x = false) → S.countP P + S.countP Q ≤ S.length
 | [],_ => by simp
 | a :: r,h => by
  have ih := count_two (P := P) (Q := Q) (S := r) fun x hx => h x (List.mem_cons_of_mem _ hx)
  have h0 := h a List.mem_cons_self
  rw [List.countP_cons,List.countP_cons,List.length_cons]
  cases hp : P a with
  | true => rw [h0 hp]; simp; omega
  | false => cases hq : Q a <;> simp <;> omega
/-- two orders meet -/
theorem meet {D : Nat → Prop} {l l' : Nat → Nat → Bool} (h : SO D l) (h' : SO D l') {S : List Nat} (nd : S.Nodup) (hS : ∀ x ∈ S,D x) {a b : Nat} (ha : a ≤ S.length) (hb : b ≤ S.length) (hab : S.length < a + b) : ∃ i ∈ S,rk l S i < a ∧ rk l' S i < b := by
 apply Classical.byContradiction
 intro hn
 have := count_two (S := S) (P := fun i => decide (rk l S i < a)) (Q := fun i => decide (rk l' S i < b)) fun x hx hp => by
  rw [decide_eq_true_eq] at hp
  rw [decide_eq_false_iff_not]
  exact fun q => hn ⟨x,hx,hp,q⟩
 rw [rk_count h S.length rfl nd hS,rk_count h' S.length rfl nd hS] at this
 omega
/-- what the rule costs -/
def vR (C : CS) : Nat → List Nat → Nat → Int
 | 0,_,_ => 0
 | f + 1,S,k => if k = 0 ∨ S.length < k then 0 else 6 ^ S.length * C.c (C.ch S k) + C.p (C.ch S k) * vR C f (S.erase (C.ch S k)) (k - 1) + C.q (C.ch S k) * vR C f (S.erase (C.ch S k)) k
def CS.V (C : CS) (S : List Nat) (k : Nat) : Int := vR C S.length S k
def CS.W (C : CS) (S : List Nat) (k i : Nat) : Int := 6 ^ S.length * C.c i + C.p i * C.V (S.erase i) (k - 1) + C.q i * C.V (S.erase i) k
theorem V_zero (C : CS) (S : List Nat) {k : Nat} (h : k = 0 ∨ S.length < k) : C.V S k = 0 := by
 unfold CS.V
 cases S.length with
 | zero => rfl
 | succ n => simp only [vR]; rw [if_pos h]
theorem V_step {C : CS} {D : Nat → Prop} (ok : CSok C D) {S : List Nat} (nd : S.Nodup) (hS : ∀ x ∈ S,D x) {k : Nat} (h1 : 1 ≤ k) (h2 : k ≤ S.length) : C.V S k = C.W S k (C.ch S k) := by
 have hm := (ok.ch S k nd hS h1 h2).1
 have le := List.length_erase_of_mem hm
 unfold CS.W CS.V
 rw [le]
 obtain ⟨n,hn⟩ : ∃ n,S.length = n + 1 := ⟨S.length - 1,by omega⟩
 rw [hn]
 simp only [vR]
 rw [if_neg (by omega),hn]
 rfl
end
section
variable {C : CS} {D : Nat → Prop}
theorem inA_two (ok : CSok C D) {S : List Nat} (nd : S.Nodup) (hS : ∀ x ∈ S,D x) {k i j : Nat} (hi : i ∈ S) (hj : j ∈ S) (hne : i ≠ j) (ai : C.inA S k i) (aj : C.inA S k j) : C.inA (S.erase j) (k - 1) i := by
 unfold CS.inA at *
 have e := rk_erase C.lA hj i
 rcases ok.oA.tot i j (hS i hi) (hS j hj) hne with q | q
 ·have m := rk_mono ok.oA hS hi (hS j hj) q
  rw [ok.oA.asy i j (hS i hi) (hS j hj) q] at e
  simp at e
  omega
 ·have m := rk_mono ok.oA hS hj (hS i hi) q
  rw [q] at e
  simp at e
  omega
theorem inB_two (ok : CSok C D) {S : List Nat} (nd : S.Nodup) (hS : ∀ x ∈ S,D x) {k i j : Nat} (hi : i ∈ S) (hj : j ∈ S) (hne : i ≠ j) (ai : C.inB S k i) (aj : C.inB S k j) : C.inB (S.erase j) k i := by
 unfold CS.inB at *
 have e := rk_erase C.lB hj i
 have le := List.length_erase_of_mem hj
 have pos : 0 < S.length := List.length_pos_of_mem hj
 rcases ok.oB.tot i j (hS i hi) (hS j hj) hne with q | q
 ·have m := rk_mono ok.oB hS hi (hS j hj) q
  rw [ok.oB.asy i j (hS i hi) (hS j hj) q] at e
  simp at e
  omega
 ·have m := rk_mono ok.oB hS hj (hS i hi) q
  rw [q] at e
  simp at e
  omega
theorem inA_less {S : List Nat} {k i j : Nat} (hj : j ∈ S) (ai : C.inA S k i) : C.inA (S.erase j) k i := by
 unfold CS.inA at *
 have e := rk_erase C.lA hj i
 omega
theorem inB_less {S : List Nat} {k i j : Nat} (hj : j ∈ S) (hk : 1 ≤ k) (ai : C.inB S k i) : C.inB (S.erase j) (k - 1) i := by
 unfold CS.inB at *
 have e := rk_erase C.lB hj i
 have le := List.length_erase_of_mem hj
 have pos : 0 < S.length := List.length_pos_of_mem hj
 omega
/-- what is said of all sets of so many tests -/
structure CM (C : CS) (D : Nat → Prop) (n : Nat) : Prop where
 E : ∀ S : List Nat,S.length = n → S.Nodup → (∀ x ∈ S,D x) → ∀ k i,1 ≤ k → k ≤ n → i ∈ S → C.inA S k i → C.inB S k i → C.V S k = C.W S k i
 L : ∀ T : List Nat,T.length = n → T.Nodup → (∀ x ∈ T,D x) → ∀ k y z,1 ≤ k → k + 1 ≤ n → y ∈ T → z ∈ T → y ≠ z → C.inA (T.erase z) k y → C.c y * C.q z ≤ C.c z * C.q y →
  (C.V (T.erase y) k - 6 * C.V ((T.erase z).erase y) (k - 1)) * C.q y ≤ (C.V (T.erase z) k - 6 * C.V ((T.erase z).erase y) (k - 1)) * C.q z + 6 ^ (n - 1) * (C.c z * C.q y - C.c y * C.q z)
 R : ∀ S : List Nat,S.length = n → S.Nodup → (∀ x ∈ S,D x) → ∀ k j,1 ≤ k → k ≤ n → j ∈ S → C.V S k ≤ C.W S k j
theorem cE (ok : CSok C D) {n : Nat} (ih : CM C D n) : ∀ S : List Nat,S.length = n + 1 → S.Nodup → (∀ x ∈ S,D x) → ∀ k i,1 ≤ k → k ≤ n + 1 → i ∈ S → C.inA S k i → C.inB S k i → C.V S k = C.W S k i := by
 intro S hl nd hS k i h1 h2 hi ai bi
 obtain ⟨m,am,bm⟩ := ok.ch S k nd hS h1 (by omega)
 rw [V_step ok nd hS h1 (by omega)]
 generalize C.ch S k = j at *
 by_cases e : i = j
 ·rw [e]
 have si := List.length_erase_of_mem hi
 have sj := List.length_erase_of_mem m
 have nde : ∀ x,(S.erase x).Nodup := fun x => nd.erase x
 have hSe : ∀ y,∀ x ∈ S.erase y,D x := fun y x hx => hS x (List.mem_of_mem_erase hx)
 have ij : i ∈ S.erase j := (List.mem_erase_of_ne e).2 hi
 have ji : j ∈ S.erase i := (List.mem_erase_of_ne (Ne.symm e)).2 m
 have a1 := inA_two ok nd hS hi m e ai am
 have a2 := inA_two ok nd hS m hi (Ne.symm e) am ai
 have b1 := inB_two ok nd hS hi m e bi bm
 have b2 := inB_two ok nd hS m hi (Ne.symm e) bm bi
 have k1 : 2 ≤ k := by unfold CS.inA at a1; omega
 have k2 : k ≤ n := by unfold CS.inB at b1; omega
 have w1 := ih.E (S.erase j) (by omega) (nde j) (hSe j) (k - 1) i (by omega) (by omega) ij a1 (inB_less m (by omega) bi)
 have w2 := ih.E (S.erase j) (by omega) (nde j) (hSe j) k i (by omega) (by omega) ij (inA_less m ai) b1
 have w3 := ih.E (S.erase i) (by omega) (nde i) (hSe i) (k - 1) j (by omega) (by omega) ji a2 (inB_less hi (by omega) bm)
 have w4 := ih.E (S.erase i) (by omega) (nde i) (hSe i) k j (by omega) (by omega) ji (inA_less hi am) b2
 have ec : (S.erase i).erase j = (S.erase j).erase i := List.erase_comm ..
 unfold CS.W at *
 rw [w1,w2,w3,w4,ec,si,sj,hl]
 have p6 : (6 : Int) ^ (n + 1) = 6 * 6 ^ (n + 1 - 1) := by rw [Nat.add_sub_cancel,Int.pow_succ,Int.mul_comm]
 rw [p6]
 have pi := (ok.pq i (hS i hi)).2.2
 have pj := (ok.pq j (hS j m)).2.2
 have qi : C.q i = 6 - C.p i := by omega
 have qj : C.q j = 6 - C.p j := by omega
 rw [qi,qj]
 generalize (6 : Int) ^ (n + 1 - 1) = X
 generalize C.V ((S.erase j).erase i) (k - 1 - 1) = v1
 generalize C.V ((S.erase j).erase i) (k - 1) = v2
 generalize C.V ((S.erase j).erase i) k = v3
 grind
theorem cL (ok : CSok C D) {n : Nat} (ih : CM C D n) (ih' : ∀ m,m + 1 = n → CM C D m) : ∀ T : List Nat,T.length = n + 1 → T.Nodup → (∀ x ∈ T,D x) → ∀ k y z,1 ≤ k → k + 1 ≤ n + 1 → y ∈ T → z ∈ T → y ≠ z → C.inA (T.erase z) k y → C.c y * C.q z ≤ C.c z * C.q y →
  (C.V (T.erase y) k - 6 * C.V ((T.erase z).erase y) (k - 1)) * C.q y ≤ (C.V (T.erase z) k - 6 * C.V ((T.erase z).erase y) (k - 1)) * C.q z + 6 ^ (n + 1 - 1) * (C.c z * C.q y - C.c y * C.q z) := by
 intro T hl nd hT k y z h1 h2 hy hz hne ay hyz
 have dy := hT y hy
 have dz := hT z hz
 have ly := List.length_erase_of_mem hy
 have lz := List.length_erase_of_mem hz
 have nde : ∀ x,(T.erase x).Nodup := fun x => nd.erase x
 have hTe : ∀ y,∀ x ∈ T.erase y,D x := fun y x hx => hT x (List.mem_of_mem_erase hx)
 have yz : y ∈ T.erase z := (List.mem_erase_of_ne hne).2 hy
 have zy : z ∈ T.erase y := (List.mem_erase_of_ne (Ne.symm hne)).2 hz
 have ec : (T.erase y).erase z = (T.erase z).erase y := List.erase_comm ..
 obtain ⟨pz0,qz0,pz⟩ := ok.pq z dz
 obtain ⟨py0,qy0,py⟩ := ok.pq y dy
 by_cases by_ : C.inB (T.erase z) k y
 ·have w1 := ih.E (T.erase z) (by omega) (nde z) (hTe z) k y h1 (by omega) yz ay by_
  have w2 := ih.R (T.erase y) (by omega) (nde y) (hTe y) k z h1 (by omega) zy
  unfold CS.W at w1 w2
  rw [ec] at w2
  rw [ly,hl] at w2
  rw [w1,lz,hl]
  generalize C.V ((T.erase z).erase y) (k - 1) = v1 at *
  generalize C.V ((T.erase z).erase y) k = v2 at *
  generalize C.V (T.erase y) k = v at *
  generalize (6 : Int) ^ (n + 1 - 1) = X at *
  have m := Int.mul_le_mul_of_nonneg_right w2 qy0
  have e1 : C.p z = 6 - C.q z := by omega
  have e2 : C.p y = 6 - C.q y := by omega
  rw [e1] at m
  rw [e2]
  grind
 ·obtain ⟨i,hi,ai,bi⟩ := meet ok.oA ok.oB (nde z) (hTe z) (a := k) (b := (T.erase z).length + 1 - k) (by omega) (by omega) (by omega)
  have bi' : C.inB (T.erase z) k i := by unfold CS.inB; omega
  have iy : i ≠ y := fun e => by_ (e ▸ bi')
  have iz : i ≠ z := fun e => by rw [e] at hi; exact List.Nodup.not_mem_erase nd hi
  have hiT := List.mem_of_mem_erase hi
  have di := hT i hiT
  obtain ⟨pi0,qi0,pi⟩ := ok.pq i di
  have iTy : i ∈ T.erase y := (List.mem_erase_of_ne iy).2 hiT
  have iU : i ∈ (T.erase z).erase y := (List.mem_erase_of_ne iy).2 hi
  have lU := List.length_erase_of_mem yz
  have aU := inA_two ok (nde z) (hTe z) hi yz iy ai ay
  have ay2 := inA_two ok (nde z) (hTe z) yz hi (Ne.symm iy) ay ai
  have bU := inB_less (C := C) yz h1 bi'
  have k2 : 2 ≤ k := by unfold CS.inA at aU; omega
  obtain ⟨m,rfl⟩ : ∃ m,n = m + 1 := ⟨n - 1,by omega⟩
  have IH := ih' m rfl
  have w1 := ih.E (T.erase z) (by omega) (nde z) (hTe z) k i h1 (by omega) hi ai bi'
  have w2 := ih.R (T.erase y) (by omega) (nde y) (hTe y) k i h1 (by omega) iTy
  have w3 := IH.E ((T.erase z).erase y) (by omega) ((nde z).erase y) (fun x hx => hTe z x (List.mem_of_mem_erase hx)) (k - 1) i (by omega) (by omega) iU aU bU
  have li := List.length_erase_of_mem hiT
  have yT' : y ∈ T.erase i := (List.mem_erase_of_ne (Ne.symm iy)).2 hy
  have zT' : z ∈ T.erase i := (List.mem_erase_of_ne (Ne.symm iz)).2 hz
  have c1 : (T.erase i).erase z = (T.erase z).erase i := List.erase_comm ..
  have c2 : (T.erase i).erase y = (T.erase y).erase i := List.erase_comm ..
  have c3 : ((T.erase z).erase i).erase y = ((T.erase z).erase y).erase i := List.erase_comm ..
  have r1 := ih.L (T.erase i) (by omega) (nde i) (hTe i) (k - 1) y z (by omega) (by omega) yT' zT' hne (by rw [c1]; exact ay2) hyz
  rw [c1,c2,c3] at r1
  have r2 : (C.V ((T.erase y).erase i) k - 6 * C.V (((T.erase z).erase y).erase i) (k - 1)) * C.q y ≤ (C.V ((T.erase z).erase i) k - 6 * C.V (((T.erase z).erase y).erase i) (k - 1)) * C.q z + 6 ^ (m + 1 - 1) * (C.c z * C.q y - C.c y * C.q z) := by
   by_cases hk : k + 1 ≤ m + 1
   ·have r2 := ih.L (T.erase i) (by omega) (nde i) (hTe i) k y z h1 hk yT' zT' hne (by rw [c1]; exact inA_less hi ay) hyz
    rw [c1,c2,c3] at r2
    exact r2
   ·have lzi := List.length_erase_of_mem hi
    have lyi := List.length_erase_of_mem iTy
    have lUi := List.length_erase_of_mem iU
    rw [V_zero C ((T.erase y).erase i) (.inr (by omega)),V_zero C ((T.erase z).erase i) (.inr (by omega)),V_zero C (((T.erase z).erase y).erase i) (.inr (by omega))]
    have := Int.mul_nonneg (show (0 : Int) ≤ 6 ^ (m + 1 - 1) from Int.pow_nonneg (by omega)) (show 0 ≤ C.c z * C.q y - C.c y * C.q z by omega)
    simp
    simpa using this
  unfold CS.W at w1 w2 w3
  rw [ly,hl] at w2
  rw [w1,w3,lz,hl,lU,lz,hl]
  have x1 : (6 : Int) ^ (m + 1 + 1 - 1) = 6 * 6 ^ m := by rw [show m + 1 + 1 - 1 = m + 1 by omega,Int.pow_succ,Int.mul_comm]
  have x2 : (6 : Int) ^ (m + 1 + 1 - 1 - 1) = 6 ^ m := by rw [show m + 1 + 1 - 1 - 1 = m by omega]
  have x3 : (6 : Int) ^ (m + 1 - 1) = 6 ^ m := by rw [show m + 1 - 1 = m by omega]
  rw [x1] at w2 ⊢
  rw [x2]
  rw [x3] at r1 r2
  have m0 := Int.mul_le_mul_of_nonneg_right w2 qy0
  have m1 := Int.mul_le_mul_of_nonneg_left r1 pi0
  have m2 := Int.mul_le_mul_of_nonneg_left r2 qi0
  generalize C.V ((T.erase y).erase i) (k - 1) = a1 at *
  generalize C.V ((T.erase y).erase i) k = a2 at *
  generalize C.V ((T.erase z).erase i) (k - 1) = b1 at *
  generalize C.V ((T.erase z).erase i) k = b2 at *
  generalize C.V (((T.erase z).erase y).erase i) (k - 1 - 1) = d1 at *
  generalize C.V (((T.erase z).erase y).erase i) (k - 1) = d2 at *
  generalize C.V (T.erase y) k = v at *
  generalize (6 : Int) ^ m = X at *
  have e1 : C.q i = 6 - C.p i := by omega
  rw [e1] at m0 m2 ⊢
  clear w1 w2 w3 r1 r2 x1 x2 x3
  grind
end
section
variable {C : CS} {D : Nat → Prop}
theorem half_alg {ci cj p r X X1 Y1 a1 a2 b2 : Int} (m : p * a1 ≤ p * (X * cj + r * X1 + (6 - r) * Y1)) (l : (a2 - 6 * Y1) * (6 - p) ≤ (b2 - 6 * Y1) * (6 - r) + X * (cj * (6 - p) - ci * (6 - r))) :
  6 * X * ci + p * a1 + (6 - p) * a2 ≤ 6 * X * cj + r * (X * ci + p * X1 + (6 - p) * Y1) + (6 - r) * b2 := by
 grind
theorem cHalf (ok : CSok C D) {n : Nat} (ih : CM C D n) (ih' : ∀ m,m + 1 = n → CM C D m) : ∀ S : List Nat,S.length = n + 1 → S.Nodup → (∀ x ∈ S,D x) → ∀ k j,1 ≤ k → k ≤ n + 1 → j ∈ S → ¬ C.inB S k j → C.V S k ≤ C.W S k j := by
 intro S hl nd hS k j h1 h2 hj nb
 have lj := List.length_erase_of_mem hj
 have nde : ∀ x,(S.erase x).Nodup := fun x => nd.erase x
 have hSe : ∀ y,∀ x ∈ S.erase y,D x := fun y x hx => hS x (List.mem_of_mem_erase hx)
 have dj := hS j hj
 have irr : ∀ l,SO D l → l j j = false := fun l h => by
  cases e : l j j with
  | false => rfl
  | true => have := h.asy j j dj dj e; rw [e] at this; exact this
 obtain ⟨i,hi,hne,ai,bi,ai',bi'⟩ : ∃ i,i ∈ S ∧ i ≠ j ∧ C.inA S k i ∧ C.inB S k i ∧ C.inA (S.erase j) (k - 1) i ∧ C.inB (S.erase j) (k - 1) i := by
  by_cases aj : C.inA S k j
  ·obtain ⟨i,hi,ai,bi⟩ := meet ok.oA ok.oB nd hS (a := k) (b := S.length + 1 - k) (by omega) (by omega) (by omega)
   have bi' : C.inB S k i := by unfold CS.inB; omega
   have hne : i ≠ j := fun e => nb (e ▸ bi')
   exact ⟨i,hi,hne,ai,bi',inA_two ok nd hS hi hj hne ai aj,inB_less hj h1 bi'⟩
  ·have k2 : 2 ≤ k := by
    apply Classical.byContradiction
    intro hk
    have k1 : k = 1 := by omega
    subst k1
    apply nb
    have e := rk_erase C.lB hj j
    rw [irr _ ok.oB] at e
    have : rk C.lB (S.erase j) j ≤ (S.erase j).length := List.countP_le_length
    simp at e
    unfold CS.inB
    omega
   obtain ⟨i,hi,ai,bi⟩ := meet ok.oA ok.oB (nde j) (hSe j) (a := k - 1) (b := S.length + 1 - k) (by omega) (by omega) (by omega)
   have hiS := List.mem_of_mem_erase hi
   have hne : i ≠ j := fun e => by rw [e] at hi; exact List.Nodup.not_mem_erase nd hi
   have eA := rk_erase C.lA hj i
   have eB := rk_erase C.lB hj i
   refine ⟨i,hiS,hne,?_,?_,ai,by unfold CS.inB; omega⟩
   ·unfold CS.inA
    split at eA <;> omega
   ·unfold CS.inB at nb ⊢
    by_cases q : C.lB j i = true
    ·have m := rk_mono ok.oB hS hj (hS i hiS) q
     rw [if_pos q] at eB
     omega
    ·rw [if_neg q] at eB
     omega
 have di := hS i hi
 have li := List.length_erase_of_mem hi
 have bij : C.c i * C.q j ≤ C.c j * C.q i := by
  rcases ok.oB.tot i j di dj hne with q | q
  ·exact ok.rB i j di dj q
  ·have m := rk_mono ok.oB hS hj di q
   unfold CS.inB at nb bi
   omega
 have k2 : 2 ≤ k := by unfold CS.inA at ai'; omega
 have ij : i ∈ S.erase j := (List.mem_erase_of_ne hne).2 hi
 have ji : j ∈ S.erase i := (List.mem_erase_of_ne (Ne.symm hne)).2 hj
 have ec : (S.erase i).erase j = (S.erase j).erase i := List.erase_comm ..
 have w0 := cE ok ih S hl nd hS k i h1 h2 hi ai bi
 have w1 := ih.E (S.erase j) (by omega) (nde j) (hSe j) (k - 1) i (by omega) (by omega) ij ai' bi'
 have w2 := ih.R (S.erase i) (by omega) (nde i) (hSe i) (k - 1) j (by omega) (by omega) ji
 obtain ⟨pi0,qi0,pi⟩ := ok.pq i di
 obtain ⟨pj0,qj0,pj⟩ := ok.pq j dj
 have l : (C.V (S.erase i) k - 6 * C.V ((S.erase j).erase i) (k - 1)) * C.q i ≤ (C.V (S.erase j) k - 6 * C.V ((S.erase j).erase i) (k - 1)) * C.q j + 6 ^ n * (C.c j * C.q i - C.c i * C.q j) := by
  by_cases hk : k + 1 ≤ n + 1
  ·have := cL ok ih ih' S hl nd hS k i j h1 hk hi hj hne (inA_less hj ai) bij
   rw [Nat.add_sub_cancel] at this
   exact this
  ·have lji := List.length_erase_of_mem ij
   rw [V_zero C (S.erase i) (.inr (by omega)),V_zero C (S.erase j) (.inr (by omega)),V_zero C ((S.erase j).erase i) (.inr (by omega))]
   have := Int.mul_nonneg (show (0 : Int) ≤ 6 ^ n from Int.pow_nonneg (by omega)) (show 0 ≤ C.c j * C.q i - C.c i * C.q j by omega)
   simp
   simpa using this
 unfold CS.W at *
 rw [ec,li,hl,Nat.add_sub_cancel] at w2
 rw [lj,hl,Nat.add_sub_cancel] at w1
 rw [w0,w1,hl]
 have x1 : (6 : Int) ^ (n + 1) = 6 * 6 ^ n := by rw [Int.pow_succ,Int.mul_comm]
 rw [x1]
 have m := Int.mul_le_mul_of_nonneg_left w2 pi0
 have e1 : C.q i = 6 - C.p i := by omega
 have e2 : C.q j = 6 - C.p j := by omega
 rw [e2] at m
 rw [e1,e2] at l
 rw [e1,e2]
 exact half_alg m l
def CS.dual (C : CS) : CS := ⟨C.c,C.q,C.p,C.lB,C.lA,fun S k => C.ch S (S.length + 1 - k)⟩
theorem dual_ok (ok : CSok C D) : CSok C.dual D := by
 refine ⟨ok.c0,fun i hi => ?_,ok.oB,ok.oA,ok.rB,ok.rA,fun S k nd hS h1 h2 => ?_⟩
 ·obtain ⟨a,b,c⟩ := ok.pq i hi
  exact ⟨b,a,by show C.q i + C.p i = 6; omega⟩
 ·obtain ⟨a,b,c⟩ := ok.ch S (S.length + 1 - k) nd hS (by omega) (by omega)
  refine ⟨a,?_,?_⟩
  ·show rk C.lB S _ < k
   unfold CS.inB at c
   show rk C.lB S (C.ch S (S.length + 1 - k)) < k
   omega
  ·show rk C.lA S (C.ch S (S.length + 1 - k)) + k ≤ S.length
   unfold CS.inA at b
   omega
theorem dual_V (ok : CSok C D) : ∀ (n : Nat) (S : List Nat),S.length = n → S.Nodup → (∀ x ∈ S,D x) → ∀ k,k ≤ n + 1 → C.dual.V S k = C.V S (n + 1 - k)
 | 0,S,hl,_,_,k,_ => by
  have : S = [] := List.length_eq_zero_iff.1 hl
  subst this
  rfl
 | n + 1,S,hl,nd,hS,k,hk => by
  by_cases k0 : k = 0
  ·rw [V_zero C.dual S (.inl k0),V_zero C S (.inr (by omega))]
  ·by_cases k1 : k = n + 2
   ·rw [V_zero C.dual S (.inr (by omega)),V_zero C S (.inl (by omega))]
   ·have h1 : 1 ≤ k := by omega
    have h2 : k ≤ S.length := by omega
    have hm := (ok.ch S (n + 1 + 1 - k) nd hS (by omega) (by omega)).1
    rw [V_step (dual_ok ok) nd hS h1 h2,V_step ok nd hS (k := n + 1 + 1 - k) (by omega) (by omega)]
    have e : C.dual.ch S k = C.ch S (n + 1 + 1 - k) := by show C.ch S (S.length + 1 - k) = _; rw [hl]
    rw [e]
    generalize C.ch S (n + 1 + 1 - k) = i at *
    have li := List.length_erase_of_mem hm
    have nde := nd.erase i
    have hSe : ∀ x ∈ S.erase i,D x := fun x hx => hS x (List.mem_of_mem_erase hx)
    have a := dual_V ok n (S.erase i) (by omega) nde hSe (k - 1) (by omega)
    have b := dual_V ok n (S.erase i) (by omega) nde hSe k (by omega)
    unfold CS.W
    rw [a,b]
    have c1 : C.dual.c i = C.c i := rfl
    have c2 : C.dual.p i = C.q i := rfl
    have c3 : C.dual.q i = C.p i := rfl
    rw [c1,c2,c3,show n + 1 - (k - 1) = n + 1 + 1 - k by omega,show n + 1 - k = n + 1 + 1 - k - 1 by omega]
    omega
theorem cMain : ∀ n : Nat,(∀ C : CS,CSok C D → CM C D n) ∧ ∀ m,m + 1 = n → ∀ C : CS,CSok C D → CM C D m
 | 0 => ⟨fun C ok => ⟨fun S _ _ _ k i h1 h2 => by omega,fun T _ _ _ k y z h1 h2 => by omega,fun S _ _ _ k j h1 h2 => by omega⟩,fun m hm => by omega⟩
 | n + 1 => by
  obtain ⟨i1,i2⟩ := cMain n
  refine ⟨fun C ok => ⟨cE ok (i1 C ok),cL ok (i1 C ok) (fun m hm => i2 m hm C ok),fun S hl nd hS k j h1 h2 hj => ?_⟩,fun m hm C ok => by
   have : m = n := by omega
   rw [this]
   exact i1 C ok⟩
  by_cases nb : C.inB S k j
  ·by_cases na : C.inA S k j
   ·rw [cE ok (i1 C ok) S hl nd hS k j h1 h2 hj na nb]
    exact Int.le_refl _
   ·have dk := dual_ok ok
    have h := cHalf dk (i1 _ dk) (fun m hm => i2 m hm _ dk) S hl nd hS (n + 2 - k) j (by omega) (by omega) hj (fun q => na (by
     have q' : rk C.lA S j + (n + 2 - k) ≤ S.length := q
     unfold CS.inA
     omega))
    have lj := List.length_erase_of_mem hj
    have a := dual_V ok (n + 1) S hl nd hS (n + 2 - k) (by omega)
    have b := dual_V ok n (S.erase j) (by omega) (nd.erase j) (fun x hx => hS x (List.mem_of_mem_erase hx)) (n + 2 - k - 1) (by omega)
    have c := dual_V ok n (S.erase j) (by omega) (nd.erase j) (fun x hx => hS x (List.mem_of_mem_erase hx)) (n + 2 - k) (by omega)
    unfold CS.W at h
    rw [a,b,c,show n + 1 + 1 - (n + 2 - k) = k by omega,show n + 1 - (n + 2 - k - 1) = k by omega,show n + 1 - (n + 2 - k) = k - 1 by omega] at h
    have c1 : C.dual.c j = C.c j := rfl
    have c2 : C.dual.p j = C.q j := rfl
    have c3 : C.dual.q j = C.p j := rfl
    rw [c1,c2,c3] at h
    unfold CS.W
    omega
  ·exact cHalf ok (i1 C ok) (fun m hm => i2 m hm C ok) S hl nd hS k j h1 h2 hj nb
/-- no way to count is better than the rule -/
theorem count_rule (ok : CSok C D) {S : List Nat} (nd : S.Nodup) (hS : ∀ x ∈ S,D x) {k j : Nat} (h1 : 1 ≤ k) (h2 : k ≤ S.length) (hj : j ∈ S) : C.V S k ≤ C.W S k j :=
 ((cMain (D := D) S.length).1 C ok).R S rfl nd hS k j h1 h2 hj
end
section
theorem sum_permI {l l' : List Int} (h : l.Perm l') : l.sum = l'.sum := by
 induction h with
 | nil => rfl
 | cons x _ ih => simp only [List.sum_cons]; rw [ih]
 | swap x y l => simp only [List.sum_cons]; omega
 | trans _ _ a b => exact a.trans b
theorem bd_alg {X c r v1 v2 s : Int} (h0 : 0 ≤ X * c) (m1 : r * v1 ≤ r * (X * s)) (m2 : (6 - r) * v2 ≤ (6 - r) * (X * s)) (n1 : 0 ≤ r * v1) (n2 : 0 ≤ (6 - r) * v2) : 0 ≤ 6 * X * c + r * v1 + (6 - r) * v2 ∧ 6 * X * c + r * v1 + (6 - r) * v2 ≤ 6 * X * (c + s) := by
 constructor
 ·have : 6 * X * c = 6 * (X * c) := by rw [Int.mul_assoc]
  omega
 ·grind
theorem V_bd {C : CS} {D : Nat → Prop} (ok : CSok C D) : ∀ (n : Nat) (S : List Nat),S.length = n → S.Nodup → (∀ x ∈ S,D x) → ∀ k,0 ≤ C.V S k ∧ C.V S k ≤ 6 ^ n * (S.map C.c).sum
 | 0,S,hl,_,_,k => by
  have : S = [] := List.length_eq_zero_iff.1 hl
  subst this
  exact ⟨Int.le_refl _,by simp [CS.V,vR]⟩
 | n + 1,S,hl,nd,hS,k => by
  by_cases hk : 1 ≤ k ∧ k ≤ n + 1
  ·obtain ⟨m,_,_⟩ := ok.ch S k nd hS hk.1 (by omega)
   rw [V_step ok nd hS hk.1 (by omega)]
   generalize C.ch S k = i at *
   have di := hS i m
   have li := List.length_erase_of_mem m
   have hSe : ∀ x ∈ S.erase i,D x := fun x hx => hS x (List.mem_of_mem_erase hx)
   obtain ⟨a1,a2⟩ := V_bd ok n (S.erase i) (by omega) (nd.erase i) hSe (k - 1)
   obtain ⟨b1,b2⟩ := V_bd ok n (S.erase i) (by omega) (nd.erase i) hSe k
   obtain ⟨p0,q0,pq⟩ := ok.pq i di
   have c0 := ok.c0 i di
   have xp : (0 : Int) ≤ 6 ^ n := Int.pow_nonneg (by omega)
   have sm : (S.map C.c).sum = C.c i + ((S.erase i).map C.c).sum := by
    have := sum_permI ((List.perm_cons_erase m).map C.c)
    rw [this]
    simp
   have x1 : (6 : Int) ^ (n + 1) = 6 * 6 ^ n := by rw [Int.pow_succ,Int.mul_comm]
   unfold CS.W
   rw [hl,sm,x1]
   have m1 := Int.mul_le_mul_of_nonneg_left a2 p0
   have m2 := Int.mul_le_mul_of_nonneg_left b2 q0
   have n1 := Int.mul_nonneg p0 a1
   have n2 := Int.mul_nonneg q0 b1
   have n3 := Int.mul_nonneg xp c0
   have e : C.q i = 6 - C.p i := by omega
   rw [e] at m2 n2 ⊢
   exact bd_alg n3 m1 m2 n1 n2
  ·rw [V_zero C S (by omega)]
   refine ⟨Int.le_refl _,Int.mul_nonneg (Int.pow_nonneg (by omega)) ?_⟩
   have : ∀ l : List Nat,(∀ x ∈ l,D x) → 0 ≤ (l.map C.c).sum := fun l => by
    induction l with
    | nil => simp
    | cons a r ih =>
     intro h
     have := ih fun x hx => h x (List.mem_cons_of_mem _ hx)
     have := ok.c0 a (h a List.mem_cons_self)
     simp only [List.map_cons,List.sum_cons]
     omega
   exact this S hS
/-- tests,the two orders by ratios,and the least test of both -/
def tltA (us : List T) (a b : Nat) : Bool := decide (cA us a * pA us b < cA us b * pA us a ∨ cA us b * pA us a = cA us a * pA us b ∧ a < b)
def tltB (us : List T) (a b : Nat) : Bool := decide (cA us a * (6 - pA us b) < cA us b * (6 - pA us a) ∨ cA us b * (6 - pA us a) = cA us a * (6 - pA us b) ∧ a < b)
def bothL (us : List T) (S : List Nat) (k : Nat) : List Nat := S.filter fun i => decide (rk (tltA us) S i < k) && decide (rk (tltB us) S i + k ≤ S.length)
def cs (us : List T) : CS := ⟨cA us,pA us,fun i => 6 - pA us i,tltA us,tltB us,fun S k => (bothL us S k).headD 0⟩
theorem lt_so {c p : Nat → Int} {D : Nat → Prop} (hp : ∀ i,D i → 1 ≤ p i) : SO D fun a b => decide (c a * p b < c b * p a ∨ c b * p a = c a * p b ∧ a < b) := by
 refine ⟨fun a b _ _ h => ?_,fun a b d ha hb hd h1 h2 => ?_,fun a b _ _ hne => ?_⟩
 ·simp only [decide_eq_true_eq,decide_eq_false_iff_not] at h ⊢
  omega
 ·simp only [decide_eq_true_eq] at h1 h2 ⊢
  have ha := hp a ha
  have hb := hp b hb
  have hd := hp d hd
  revert h1 h2 ha hb hd
  generalize c a = x
  generalize c b = y
  generalize c d = z
  generalize p a = o
  generalize p b = q
  generalize p d = r
  intro h1 h2 ha hb hd
  have k1 : x * q ≤ y * o := by omega
  have k2 : y * r ≤ z * q := by omega
  have m1 := Int.mul_le_mul_of_nonneg_right k1 (show 0 ≤ r by omega)
  have m2 := Int.mul_le_mul_of_nonneg_right k2 (show 0 ≤ o by omega)
  have e1 : x * q * r = x * r * q := by grind
  have e2 : y * o * r = y * r * o := by grind
  have e3 : z * q * o = z * o * q := by grind
  have le : x * r ≤ z * o := by
   refine Int.le_of_mul_le_mul_right (a := q) ?_ (by omega)
   omega
  by_cases e : x * r = z * o
  ·right
   have s : x * r * q = z * o * q := by rw [e]
   have t1 : x * q * r = y * o * r := by omega
   have t2 : y * r * o = z * q * o := by omega
   have u1 : x * q = y * o := Int.eq_of_mul_eq_mul_right (by omega) t1
   have u2 : y * r = z * q := Int.eq_of_mul_eq_mul_right (by omega) t2
   refine ⟨e.symm,?_⟩
   omega
  ·left
   omega
 ·simp only [decide_eq_true_eq]
  omega
theorem cs_ok {us : List T} (h : us.all tOk = true) : CSok (cs us) fun i => i < us.length := by
 have oA : SO (fun i => i < us.length) (tltA us) := lt_so (c := cA us) (p := pA us) fun i hi => (pA_bd h hi).1
 have oB : SO (fun i => i < us.length) (tltB us) := lt_so (c := cA us) (p := fun i => 6 - pA us i) fun i hi => by have := pA_bd h hi; show 1 ≤ 6 - pA us i; omega
 refine ⟨fun i _ => (cA_nn h i).1,fun i hi => ?_,oA,oB,fun i j _ _ q => ?_,fun i j _ _ q => ?_,fun S k nd hS h1 h2 => ?_⟩
 ·have := pA_bd h hi
  show 0 ≤ pA us i ∧ 0 ≤ 6 - pA us i ∧ pA us i + (6 - pA us i) = 6
  omega
 ·have q' : tltA us i j = true := q
  unfold tltA at q'
  rw [decide_eq_true_eq] at q'
  show cA us i * pA us j ≤ cA us j * pA us i
  omega
 ·have q' : tltB us i j = true := q
  unfold tltB at q'
  rw [decide_eq_true_eq] at q'
  show cA us i * (6 - pA us j) ≤ cA us j * (6 - pA us i)
  omega
 ·obtain ⟨i,hi,a,b⟩ := meet oA oB nd hS (a := k) (b := S.length + 1 - k) (by omega) (by omega) (by omega)
  have hm : i ∈ bothL us S k := List.mem_filter.2 ⟨hi,by simp; omega⟩
  have hh : (bothL us S k).headD 0 ∈ bothL us S k := by
   cases e : bothL us S k with
   | nil => rw [e] at hm; cases hm
   | cons x r => exact List.mem_cons_self
  obtain ⟨g1,g2⟩ := List.mem_filter.1 hh
  rw [Bool.and_eq_true,decide_eq_true_eq,decide_eq_true_eq] at g2
  exact ⟨g1,g2.1,g2.2⟩
end
section
/-- what is not known,and how many yes -/
def unk (m : Nat) (ks : List Int) : List Nat := (List.range m).filter fun k => ks[k]? == some (-1)
def yesN (m : Nat) (ks : List Int) : Nat := (List.range m).countP fun k => ks[k]? == some 1
def hdN (m s : Nat) : Nat := (List.range m).countP fun k => s.testBit k
theorem unk_nd (m : Nat) (ks : List Int) : (unk m ks).Nodup := List.nodup_range.filter _
theorem unk_mem {m : Nat} {ks : List Int} {k : Nat} : k ∈ unk m ks ↔ k < m ∧ ks[k]? = some (-1) := by
 unfold unk
 rw [List.mem_filter,List.mem_range,beq_iff_eq]
theorem unk_set {m : Nat} {ks : List Int} {k : Nat} (hk : ks[k]? = some (-1)) {v : Int} (hv : v ≠ -1) : unk m (ks.set k v) = (unk m ks).erase k := by
 rw [(unk_nd m ks).erase_eq_filter]
 unfold unk
 rw [List.filter_filter]
 refine List.filter_congr fun j _ => ?_
 by_cases e : k = j
 ·subst e
  rw [List.getElem?_set_self (List.getElem?_eq_some_iff.1 hk).1,hk]
  simp [hv]
 ·rw [List.getElem?_set_ne e]
  have : (j != k) = true := bne_iff_ne.2 (Ne.symm e)
  rw [this]
  simp
theorem yes_set0 {m : Nat} {ks : List Int} {k : Nat} (hk : ks[k]? = some (-1)) : yesN m (ks.set k 0) = yesN m ks := by
 unfold yesN
 refine List.countP_congr fun j _ => ?_
 by_cases e : k = j
 ·subst e
  rw [List.getElem?_set_self (List.getElem?_eq_some_iff.1 hk).1,hk]
  simp
 ·rw [List.getElem?_set_ne e]
theorem yes_set1 {m : Nat} {ks : List Int} {k : Nat} (hm : k < m) (hk : ks[k]? = some (-1)) : yesN m (ks.set k 1) = yesN m ks + 1 := by
 unfold yesN
 have P := List.perm_cons_erase (List.mem_range.2 hm)
 have nd : (List.range m).Nodup := List.nodup_range
 rw [P.countP_eq,P.countP_eq,List.countP_cons,List.countP_cons,List.getElem?_set_self (List.getElem?_eq_some_iff.1 hk).1,hk]
 have : ((List.range m).erase k).countP (fun j => (ks.set k 1)[j]? == some 1) = ((List.range m).erase k).countP (fun j => ks[j]? == some 1) := by
  refine List.countP_congr fun j hj => ?_
  have e : k ≠ j := fun e => by rw [← e] at hj; exact List.Nodup.not_mem_erase nd hj
  rw [List.getElem?_set_ne e]
 rw [this]
 simp
theorem hd_low {m : Nat} {ks : List Int} (hl : ks.length = m) (hk : ks.all kOk = true) (d : Bool) : agB ks (tabN (fun k => if ks[k]? = some (-1) then d else ks[k]? == some 1) m) = true ∧
  hdN m (tabN (fun k => if ks[k]? = some (-1) then d else ks[k]? == some 1) m) = yesN m ks + if d then (unk m ks).length else 0 := by
 have kv : ∀ k,k < m → ks[k]? = some (-1) ∨ ks[k]? = some 0 ∨ ks[k]? = some 1 := fun k hk' => by
  have e := List.getElem?_eq_getElem (l := ks) (i := k) (by omega)
  have := List.all_eq_true.1 hk ks[k] (List.getElem_mem (by omega))
  unfold kOk at this
  simp only [decide_eq_true_eq] at this
  rw [e]
  simp only [Option.some.injEq]
  omega
 constructor
 ·rw [agB_iff]
  intro k v hkv
  have hlt := (List.getElem?_eq_some_iff.1 hkv).1
  rcases kv k (by omega) with q | q | q
  ·left; rw [q] at hkv; exact (Option.some.inj hkv).symm
  ·right
   rw [tabN_bit,decide_eq_true (show k < m by omega),q]
   rw [q] at hkv
   rw [← Option.some.inj hkv]
   simp [bI]
  ·right
   rw [tabN_bit,decide_eq_true (show k < m by omega),q]
   rw [q] at hkv
   rw [← Option.some.inj hkv]
   simp [bI]
 ·unfold hdN yesN unk
  have key : ∀ l : List Nat,(∀ k ∈ l,k < m) → l.countP (fun k => (tabN (fun k => if ks[k]? = some (-1) then d else ks[k]? == some 1) m).testBit k) = l.countP (fun k => ks[k]? == some 1) + if d then (l.filter fun k => ks[k]? == some (-1)).length else 0 := fun l => by
   induction l with
   | nil => intro _; cases d <;> rfl
   | cons a r ih =>
    intro hlt
    have := ih fun x hx => hlt x (List.mem_cons_of_mem _ hx)
    rw [List.countP_cons,List.countP_cons,this,tabN_bit,decide_eq_true (hlt a List.mem_cons_self),List.filter_cons]
    rcases kv a (hlt a List.mem_cons_self) with q | q | q <;> rw [q] <;> cases d <;> simp <;> omega
  exact key _ fun k hk => List.mem_range.1 hk
end
section
theorem count_or {P Q R : Nat → Bool} : ∀ {l : List Nat},(∀ x ∈ l,P x = true → Q x = true ∨ R x = true) → l.countP P ≤ l.countP Q + l.countP R
 | [],_ => by simp
 | a :: r,h => by
  have ih := count_or (P := P) (Q := Q) (R := R) (l := r) fun x hx => h x (List.mem_cons_of_mem _ hx)
  have h0 := h a List.mem_cons_self
  rw [List.countP_cons,List.countP_cons,List.countP_cons]
  cases hp : P a with
  | false => simp; omega
  | true => rcases h0 hp with q | q <;> rw [q] <;> simp <;> omega
theorem cnt_fcd {m k : Nat} {t : List T} (hv : ∀ s,s < 2 ^ m → tv t s = decide (k ≤ hdN m s)) {ks : List Int} (hl : ks.length = m) (hk : ks.all kOk = true) :
  fcd m t ks = true ↔ ¬ (1 ≤ k - yesN m ks ∧ k - yesN m ks ≤ (unk m ks).length) := by
 rw [fcd_iff hl hk]
 constructor
 ·rintro ⟨b,hb⟩ hn
  have d1 := hd_low hl hk true
  have d0 := hd_low hl hk false
  have v1 := hb _ (tabN_lt _ _) d1.1
  have v0 := hb _ (tabN_lt _ _) d0.1
  rw [hv _ (tabN_lt _ _),d1.2] at v1
  rw [hv _ (tabN_lt _ _),d0.2] at v0
  rw [← v0] at v1
  simp at v1
  omega
 ·intro hn
  have bit : ∀ s,agB ks s = true → ∀ j,ks[j]? = some 1 → s.testBit j = true := fun s ha j hj => by
   have := (agB_iff.1 ha j 1 hj).resolve_left (by omega)
   cases hb : s.testBit j with
   | true => rfl
   | false => rw [hb] at this; simp [bI] at this
  by_cases hy : k ≤ yesN m ks
  ·refine ⟨true,fun s hs ha => ?_⟩
   rw [hv s hs,decide_eq_true_eq]
   refine Nat.le_trans hy (List.countP_mono_left fun j _ hj => ?_)
   rw [beq_iff_eq] at hj
   exact bit s ha j hj
  ·refine ⟨false,fun s hs ha => ?_⟩
   rw [hv s hs,decide_eq_false_iff_not]
   have c : hdN m s ≤ yesN m ks + (List.range m).countP fun j => ks[j]? == some (-1) := count_or fun j hj hb => by
    have hjm := List.mem_range.1 hj
    have e := List.getElem?_eq_getElem (l := ks) (i := j) (by omega)
    have kk := List.all_eq_true.1 hk ks[j] (List.getElem_mem (by omega))
    unfold kOk at kk
    simp only [decide_eq_true_eq] at kk
    rw [e]
    simp only [beq_iff_eq,Option.some.injEq]
    by_cases z : ks[j] = 0
    ·have := (agB_iff.1 ha j 0 (by rw [e,z])).resolve_left (by omega)
     rw [hb] at this
     simp [bI] at this
    ·omega
   have u : (unk m ks).length = (List.range m).countP fun j => ks[j]? == some (-1) := by
    unfold unk
    rw [List.countP_eq_length_filter]
   omega
theorem low_alg {X w c r a0 a1 v0 v1 v : Int} (hw : 0 ≤ w) (h0 : w * (6 - r) * v0 ≤ a0 * X) (h1 : w * r * v1 ≤ a1 * X) (hv : v ≤ 6 * X * c + r * v1 + (6 - r) * v0) : 6 * w * v ≤ (6 * w * c + a0 + a1) * (6 * X) := by
 have m := Int.mul_le_mul_of_nonneg_left hv (show 0 ≤ 6 * w by omega)
 grind
theorem eq_alg {X w c r a0 a1 v0 v1 : Int} (h0 : a0 * X = w * (6 - r) * v0) (h1 : a1 * X = w * r * v1) : (6 * w * c + a0 + a1) * (6 * X) = 6 * w * (6 * X * c + r * v1 + (6 - r) * v0) := by
 grind
theorem cLow {us t : List T} (h : us.all tOk = true) {k : Nat} (hv : ∀ s,s < 2 ^ us.length → tv t s = decide (k ≤ hdN us.length s)) :
  ∀ (x : PT) (ks : List Int),ks.length = us.length → ks.all kOk = true → okT us.length t ks x →
   wk us ks * (cs us).V (unk us.length ks) (k - yesN us.length ks) ≤ tA us ks x * 6 ^ (unk us.length ks).length
 | .stop,ks,hl,hk,hx => by
  have := (cnt_fcd hv hl hk).1 hx
  rw [V_zero (cs us) _ (by omega)]
  simp [tA]
 | .ask j n y,ks,hl,hk,hx => by
  obtain ⟨hf,h1,hn,hy⟩ := hx
  have hjm : j < us.length := by
   have := (List.getElem?_eq_some_iff.1 h1).1
   omega
  have hu : j ∈ unk us.length ks := unk_mem.2 ⟨hjm,h1⟩
  have nf : 1 ≤ k - yesN us.length ks ∧ k - yesN us.length ks ≤ (unk us.length ks).length := Classical.byContradiction fun q => by
   rw [(cnt_fcd hv hl hk).2 q] at hf
   cases hf
  have k0 := kOk_set hk j false
  have k1 := kOk_set hk j true
  rw [bI_0] at k0
  rw [bI_1] at k1
  have i0 := cLow h hv n (ks.set j 0) (by simpa using hl) k0 hn
  have i1 := cLow h hv y (ks.set j 1) (by simpa using hl) k1 hy
  rw [unk_set h1 (by omega),yes_set0 h1] at i0
  rw [unk_set h1 (by omega),yes_set1 hjm h1,show k - (yesN us.length ks + 1) = k - yesN us.length ks - 1 by omega] at i1
  have le := List.length_erase_of_mem hu
  have R := count_rule (cs_ok h) (unk_nd _ _) (fun x hx => (unk_mem.1 hx).1) nf.1 nf.2 hu
  unfold CS.W at R
  obtain ⟨w,w1,w2,w3⟩ := wk_put hl h1
  change wk us (ks.set j 0) = w * (6 - pA us j) at w2
  change wk us (ks.set j 1) = w * pA us j at w3
  have wn := wk_nn h ks
  simp only [tA]
  rw [w1]
  rw [w2] at i0
  rw [w3] at i1
  obtain ⟨u,hu2⟩ : ∃ u,(unk us.length ks).length = u + 1 := ⟨(unk us.length ks).length - 1,by omega⟩
  rw [le,hu2,Nat.add_sub_cancel] at i0 i1
  rw [hu2] at R ⊢
  have x1 : (6 : Int) ^ (u + 1) = 6 * 6 ^ u := by rw [Int.pow_succ,Int.mul_comm]
  rw [x1] at R ⊢
  exact low_alg (by omega) i0 i1 R
/-- the rule as a tree -/
def cTr (us : List T) (k : Nat) : Nat → List Int → PT
 | 0,_ => .stop
 | f + 1,ks => if 1 ≤ k - yesN us.length ks ∧ k - yesN us.length ks ≤ (unk us.length ks).length then
   .ask ((cs us).ch (unk us.length ks) (k - yesN us.length ks)) (cTr us k f (ks.set ((cs us).ch (unk us.length ks) (k - yesN us.length ks)) 0)) (cTr us k f (ks.set ((cs us).ch (unk us.length ks) (k - yesN us.length ks)) 1))
  else .stop
theorem cTr_ok {us t : List T} (h : us.all tOk = true) {k : Nat} (hv : ∀ s,s < 2 ^ us.length → tv t s = decide (k ≤ hdN us.length s)) :
  ∀ (f : Nat) (ks : List Int),ks.length = us.length → ks.all kOk = true → (unk us.length ks).length ≤ f →
   okT us.length t ks (cTr us k f ks) ∧ tA us ks (cTr us k f ks) * 6 ^ (unk us.length ks).length = wk us ks * (cs us).V (unk us.length ks) (k - yesN us.length ks)
 | 0,ks,hl,hk,hf => by
  have hn : ¬ (1 ≤ k - yesN us.length ks ∧ k - yesN us.length ks ≤ (unk us.length ks).length) := by omega
  refine ⟨(cnt_fcd hv hl hk).2 hn,?_⟩
  rw [V_zero (cs us) _ (by omega)]
  simp [cTr,tA]
 | f + 1,ks,hl,hk,hf => by
  simp only [cTr]
  by_cases hn : 1 ≤ k - yesN us.length ks ∧ k - yesN us.length ks ≤ (unk us.length ks).length
  ·rw [if_pos hn]
   have ok := cs_ok h
   have hS : ∀ x ∈ unk us.length ks,x < us.length := fun x hx => (unk_mem.1 hx).1
   obtain ⟨hu,_,_⟩ := ok.ch _ _ (unk_nd us.length ks) hS hn.1 hn.2
   have st := V_step ok (unk_nd us.length ks) hS hn.1 hn.2
   generalize (cs us).ch (unk us.length ks) (k - yesN us.length ks) = j at *
   obtain ⟨hjm,h1⟩ := unk_mem.1 hu
   have k0 := kOk_set hk j false
   have k1 := kOk_set hk j true
   rw [bI_0] at k0
   rw [bI_1] at k1
   have le := List.length_erase_of_mem hu
   have e0 := unk_set (m := us.length) h1 (v := 0) (by omega)
   have e1 := unk_set (m := us.length) h1 (v := 1) (by omega)
   obtain ⟨o0,i0⟩ := cTr_ok h hv f (ks.set j 0) (by simpa using hl) k0 (by rw [e0]; omega)
   obtain ⟨o1,i1⟩ := cTr_ok h hv f (ks.set j 1) (by simpa using hl) k1 (by rw [e1]; omega)
   refine ⟨⟨?_,h1,o0,o1⟩,?_⟩
   ·rw [← Bool.not_eq_true]
    exact fun q => (cnt_fcd hv hl hk).1 q hn
   ·rw [e0,yes_set0 h1] at i0
    rw [e1,yes_set1 hjm h1,show k - (yesN us.length ks + 1) = k - yesN us.length ks - 1 by omega] at i1
    rw [st]
    unfold CS.W
    obtain ⟨w,w1,w2,w3⟩ := wk_put hl h1
    change wk us (ks.set j 0) = w * (6 - pA us j) at w2
    change wk us (ks.set j 1) = w * pA us j at w3
    simp only [tA]
    rw [w1]
    rw [w2] at i0
    rw [w3] at i1
    obtain ⟨u,hu2⟩ : ∃ u,(unk us.length ks).length = u + 1 := ⟨(unk us.length ks).length - 1,by omega⟩
    rw [le,hu2,Nat.add_sub_cancel] at i0 i1
    rw [hu2]
    have x1 : (6 : Int) ^ (u + 1) = 6 * 6 ^ u := by rw [Int.pow_succ,Int.mul_comm]
    rw [x1]
    exact eq_alg i0 i1
  ·rw [if_neg hn]
   refine ⟨(cnt_fcd hv hl hk).2 hn,?_⟩
   rw [V_zero (cs us) _ (by omega)]
   simp [tA]
/-- all plans for a count: none costs less than the rule,and the rule is one -/
theorem cBest {us t : List T} (h : us.all tOk = true) {k : Nat} (hv : ∀ s,s < 2 ^ us.length → tv t s = decide (k ≤ hdN us.length s)) : bA us t = (cs us).V (List.range us.length) k := by
 have un : unk us.length (non us.length) = List.range us.length := by
  unfold unk
  rw [List.filter_eq_self]
  intro j hj
  unfold non
  rw [List.getElem?_replicate,if_pos (List.mem_range.1 hj)]
  rfl
 have yn : yesN us.length (non us.length) = 0 := by
  unfold yesN
  rw [List.countP_eq_zero]
  intro j hj
  unfold non
  rw [List.getElem?_replicate,if_pos (List.mem_range.1 hj)]
  simp
 obtain ⟨c1,c2⟩ := bX_ok (t := t) h
 have l := cLow h hv (bX us t) (non us.length) (non_len _) (non_all _) c1
 obtain ⟨o,e⟩ := cTr_ok h hv us.length (non us.length) (non_len _) (non_all _) (by rw [un,List.length_range]; exact Nat.le_refl _)
 have b := bA_le h o
 rw [un,yn,wk_non,List.length_range,Nat.sub_zero] at l e
 rw [c2,Int.mul_comm (bA us t)] at l
 rw [Int.mul_comm] at e
 have pp : (0 : Int) < 6 ^ us.length := Int.pow_pos (by omega)
 have l' := Int.le_of_mul_le_mul_left l pp
 have e' := Int.eq_of_mul_eq_mul_left (by omega) e
 omega
end
section
/-- the weights of counts -/
def cwN (us : List T) (k : Nat) : Int := sumTo (fun s => if k ≤ hdN us.length s then wt us s else 0) (2 ^ us.length)
theorem hd_le (m s : Nat) : hdN m s ≤ m := by
 have : hdN m s ≤ (List.range m).length := List.countP_le_length
 rwa [List.length_range] at this
end
section
/-- the strict order of a row's ratios -/
def tlR (us : List T) (row : Int) (a b : Nat) : Bool := decide (cA us a * eA us row b < cA us b * eA us row a ∨ cA us b * eA us row a = cA us a * eA us row b ∧ a < b)
theorem insR_strict {us : List T} (h : us.all tOk = true) {row k : Int} (hk : k.toNat < us.length) : ∀ {l : List Int},(∀ o ∈ l,o.toNat < us.length ∧ o.toNat < k.toNat) → l.Pairwise (fun a b => rLe us row a b = true ∧ (rLe us row b a = true → a.toNat < b.toNat)) → (insR us row k l).Pairwise (fun a b => rLe us row a b = true ∧ (rLe us row b a = true → a.toNat < b.toNat))
 | [],_,_ => by simp [insR]
 | o :: r,hl,hp => by
  obtain ⟨p1,p2⟩ := List.pairwise_cons.1 hp
  have ih := insR_strict h (row := row) hk (l := r) (fun x hx => hl x (List.mem_cons_of_mem _ hx)) p2
  have ho := hl o List.mem_cons_self
  simp only [insR]
  by_cases hc : rLe us row o k = true
  ·rw [if_pos hc]
   refine List.pairwise_cons.2 ⟨fun x hx => ?_,ih⟩
   rcases List.mem_cons.1 ((insR_perm us row k r).mem_iff.1 hx) with e | e
   ·subst e; exact ⟨hc,fun _ => ho.2⟩
   ·exact p1 x e
  ·rw [if_neg hc]
   have hc' : rLe us row k o = true := rLe_total (by simpa using hc)
   refine List.pairwise_cons.2 ⟨fun x hx => ?_,hp⟩
   rcases List.mem_cons.1 hx with e | e
   ·subst e; exact ⟨hc',fun q => absurd q hc⟩
   ·have hx' := hl x hx
    exact ⟨rLe_trans h hk ho.1 hx'.1 hc' (p1 x e).1,fun q => absurd (rLe_trans h ho.1 hx'.1 hk (p1 x e).1 q) hc⟩
theorem rO_strict {us : List T} (h : us.all tOk = true) (row : Int) : ∀ n : Nat,n ≤ us.length → (rO us row n).Pairwise (fun a b => rLe us row a b = true ∧ (rLe us row b a = true → a.toNat < b.toNat))
 | 0,_ => List.Pairwise.nil
 | n + 1,hn => insR_strict h (k := (n : Int)) (by rw [Int.toNat_natCast]; omega) (fun o ho => by have := rO_mem ho; rw [Int.toNat_natCast]; omega) (rO_strict h row n (by omega))
theorem rLe_tl {us : List T} {row a b : Int} (h : rLe us row a b = true ∧ (rLe us row b a = true → a.toNat < b.toNat)) : tlR us row a.toNat b.toNat = true := by
 unfold tlR
 unfold rLe at h
 rw [decide_eq_true_eq,decide_eq_true_eq] at h
 rw [decide_eq_true_eq]
 omega
/-- the order of a row,as numbers -/
def oN (us : List T) (row : Int) : List Nat := (rO us row us.length).map Int.toNat
theorem oN_strict {us : List T} (h : us.all tOk = true) (row : Int) : (oN us row).Pairwise (fun a b => tlR us row a b = true) := by
 unfold oN
 exact List.pairwise_map.2 ((rO_strict h row us.length (Nat.le_refl _)).imp rLe_tl)
theorem oN_perm (us : List T) (row : Int) : (oN us row).Perm (List.range us.length) := by
 have := (rO_perm us row us.length).map Int.toNat
 unfold rng at this
 rw [List.map_map] at this
 have e : (Int.toNat ∘ fun (k : Nat) => (k : Int)) = id := by funext k; simp
 rw [e,List.map_id] at this
 exact this
theorem oN_nd (us : List T) (row : Int) : (oN us row).Nodup := (oN_perm us row).nodup_iff.2 List.nodup_range
theorem oN_mem {us : List T} {row : Int} {k : Nat} (h : k ∈ oN us row) : k < us.length := List.mem_range.1 ((oN_perm us row).mem_iff.1 h)
/-- who is among the first ones -/
theorem take_rk {D : Nat → Prop} {l : Nat → Nat → Bool} (h : SO D l) : ∀ {L : List Nat} {n i : Nat},L.Pairwise (fun a b => l a b = true) → (∀ x ∈ L,D x) → (i ∈ L.take n ↔ i ∈ L ∧ rk l L i < n)
 | [],n,i,_,_ => by simp
 | a :: r,0,i,_,_ => by simp
 | a :: r,n + 1,i,hp,hD => by
  obtain ⟨p1,p2⟩ := List.pairwise_cons.1 hp
  have da := hD a List.mem_cons_self
  have hr : ∀ x ∈ r,D x := fun x hx => hD x (List.mem_cons_of_mem _ hx)
  have ih := take_rk h (L := r) (n := n) (i := i) p2 hr
  have irr : ∀ x,D x → l x x = false := fun x dx => by
   cases e : l x x with
   | false => rfl
   | true => have := h.asy x x dx dx e; rw [e] at this; exact this
  rw [List.take_succ_cons,List.mem_cons,List.mem_cons,ih]
  unfold rk
  rw [List.countP_cons]
  by_cases e : i = a
  ·subst e
   have z : r.countP (fun x => l x i) = 0 := List.countP_eq_zero.2 fun x hx => by rw [h.asy i x da (hr x hx) (p1 x hx)]; simp
   rw [z,irr i da]
   simp
  ·constructor
   ·rintro (q | ⟨q1,q2⟩)
    ·exact absurd q e
    ·refine ⟨.inr q1,?_⟩
     split <;> omega
   ·rintro ⟨q1 | q1,q2⟩
    ·exact absurd q1 e
    ·rw [p1 i q1] at q2
     simp at q2
     exact .inr ⟨q1,q2⟩
/-- one more of the first ones -/
def stpF (so n a k : Nat) : Nat := if pc a < n ∧ so.testBit k = true then a ||| 2 ^ k else a
def fF (so n : Nat) (l : List Nat) : Nat := l.foldl (stpF so n) 0
theorem orF_fin : ∀ (a : _root_.Fin 32) (k : _root_.Fin 5),a.val ||| 2 ^ k.val < 32 ∧ (a.val.testBit k.val = false → pc (a.val ||| 2 ^ k.val) = pc a.val + 1) := by decide +kernel
theorem orF_bit {a k i : Nat} : (a ||| 2 ^ k).testBit i = (a.testBit i || decide (k = i)) := by
 rw [Nat.testBit_or,Nat.testBit_two_pow]
theorem stpF_fold {so n : Nat} : ∀ (l A : List Nat) (a : Nat),(A ++ l).Nodup → (∀ x ∈ l,x < 5) → a < 32 → pc a = A.length → (∀ i,a.testBit i = decide (i ∈ A)) →
  ∃ R,R = A ++ (l.filter so.testBit).take (n - A.length) ∧ l.foldl (stpF so n) a < 32 ∧ pc (l.foldl (stpF so n) a) = R.length ∧ ∀ i,(l.foldl (stpF so n) a).testBit i = decide (i ∈ R)
 | [],A,a,_,_,ha,hp,hb => ⟨A,by simp,ha,hp,hb⟩
 | k :: r,A,a,nd,h5,ha,hp,hb => by
  have hk := h5 k List.mem_cons_self
  have nk : k ∉ A := fun q => by
   have := (List.nodup_append.1 nd).2.2 k q k List.mem_cons_self
   exact this rfl
  obtain ⟨f1,f2⟩ := orF_fin ⟨a,ha⟩ ⟨k,hk⟩
  simp only at f1 f2
  rw [List.foldl_cons]
  by_cases c : so.testBit k = true
  ·rw [List.filter_cons,if_pos c]
   by_cases d : A.length < n
   ·have e : stpF so n a k = a ||| 2 ^ k := by unfold stpF; rw [hp,if_pos ⟨d,c⟩]
    rw [e]
    obtain ⟨R,r1,r2,r3,r4⟩ := stpF_fold (so := so) (n := n) r (A ++ [k]) (a ||| 2 ^ k) (by simpa using nd) (fun x hx => h5 x (List.mem_cons_of_mem _ hx)) f1 (by rw [f2 (by rw [hb]; simpa using nk),hp]; simp) (fun i => by
     rw [orF_bit,hb,← Bool.decide_or]
     refine decide_eq_decide.2 ?_
     rw [List.mem_append,List.mem_singleton]
     constructor
     ·rintro (q | q)
      ·exact .inl q
      ·exact .inr q.symm
     ·rintro (q | q)
      ·exact .inl q
      ·exact .inr q.symm)
    refine ⟨R,?_,r2,r3,r4⟩
    obtain ⟨j,hj⟩ : ∃ j,n - A.length = j + 1 := ⟨n - A.length - 1,by omega⟩
    rw [r1,hj,List.take_succ_cons,List.length_append,List.length_singleton,show n - (A.length + 1) = j by omega]
    simp
   ·have e : stpF so n a k = a := by unfold stpF; rw [hp,if_neg fun q => d q.1]
    rw [e]
    obtain ⟨R,r1,r2,r3,r4⟩ := stpF_fold (so := so) (n := n) r A a (by
     refine nd.sublist ?_
     exact List.Sublist.append (List.Sublist.refl _) (List.sublist_cons_self _ _)) (fun x hx => h5 x (List.mem_cons_of_mem _ hx)) ha hp hb
    refine ⟨R,?_,r2,r3,r4⟩
    rw [r1,show n - A.length = 0 by omega]
    simp
  ·have c' : so.testBit k = false := by simpa using c
   have e : stpF so n a k = a := by unfold stpF; rw [if_neg fun q => c q.2]
   rw [e,List.filter_cons,if_neg c]
   exact stpF_fold (so := so) (n := n) r A a (nd.sublist (List.Sublist.append (List.Sublist.refl _) (List.sublist_cons_self _ _))) (fun x hx => h5 x (List.mem_cons_of_mem _ hx)) ha hp hb
theorem fF_ok {so n : Nat} {l : List Nat} (nd : l.Nodup) (h5 : ∀ x ∈ l,x < 5) : fF so n l < 32 ∧ pc (fF so n l) ≤ l.length ∧ ∀ i,(fF so n l).testBit i = decide (i ∈ (l.filter so.testBit).take n) := by
 obtain ⟨R,r1,r2,r3,r4⟩ := stpF_fold (so := so) (n := n) l [] 0 (by simpa using nd) h5 (by omega) rfl (fun i => by simp)
 simp only [List.nil_append,List.length_nil,Nat.sub_zero] at r1
 subst r1
 refine ⟨r2,?_,r4⟩
 unfold fF
 rw [r3]
 exact Nat.le_trans (List.length_take_le' _ _) (List.length_filter_le _ _)
/-- what is left,in ascending order -/
def Sl (m so : Nat) : List Nat := (List.range m).filter fun k => so.testBit k
theorem Sl_nd (m so : Nat) : (Sl m so).Nodup := List.nodup_range.filter _
theorem Sl_mem {m so k : Nat} : k ∈ Sl m so ↔ k < m ∧ so.testBit k = true := by unfold Sl; rw [List.mem_filter,List.mem_range]
theorem Sl_len (m so : Nat) : (Sl m so).length = hdN m so := by unfold Sl hdN; rw [List.countP_eq_length_filter]
theorem pcs_fin : ∀ (m : _root_.Fin 6) (a : _root_.Fin 32),a.val < 2 ^ m.val → pc a.val = hdN m.val a.val := by decide +kernel
theorem pcs {m a : Nat} (hm : m ≤ 5) (h : a < 2 ^ m) : pc a = hdN m a := by
 have : (2 : Nat) ^ m ≤ 2 ^ 5 := Nat.pow_le_pow_right (by omega) hm
 exact pcs_fin ⟨m,by omega⟩ ⟨a,by omega⟩ h
theorem fF_rk {us : List T} (h : us.all tOk = true) (h5 : us.length ≤ 5) (row : Int) (hr : row = 0 ∨ row = 1) (so n i : Nat) : (fF so n (oN us row)).testBit i = decide (i ∈ Sl us.length so ∧ rk (tlR us row) (Sl us.length so) i < n) := by
 obtain ⟨_,_,q⟩ := fF_ok (so := so) (n := n) (oN_nd us row) fun x hx => by have := oN_mem hx; omega
 rw [q]
 have ok := cs_ok h
 have so' : SO (fun i => i < us.length) (tlR us row) := by
  rcases hr with rfl | rfl
  ·exact ok.oB
  ·exact ok.oA
 have P : ((oN us row).filter so.testBit).Perm (Sl us.length so) := (oN_perm us row).filter _
 refine decide_eq_decide.2 ?_
 rw [take_rk so' ((oN_strict h row).sublist List.filter_sublist) (fun x hx => oN_mem (List.mem_filter.1 hx).1),P.mem_iff]
 unfold rk
 rw [P.countP_eq]
/-- both at once -/
def bB (us : List T) (so k : Nat) : Nat := fF so k (oN us 1) &&& fF so (hdN us.length so - k + 1) (oN us 0)
theorem bB_bit {us : List T} (h : us.all tOk = true) (h5 : us.length ≤ 5) {so k : Nat} (hk : k ≤ hdN us.length so) (i : Nat) : (bB us so k).testBit i = decide (i ∈ bothL us (Sl us.length so) k) := by
 unfold bB bothL
 rw [Nat.testBit_and,fF_rk h h5 1 (.inr rfl),fF_rk h h5 0 (.inl rfl),← Bool.decide_and]
 refine decide_eq_decide.2 ?_
 rw [List.mem_filter,Bool.and_eq_true,decide_eq_true_eq,decide_eq_true_eq,Sl_len]
 have e1 : tlR us 1 = tltA us := by funext a b; rfl
 have e2 : tlR us 0 = tltB us := by funext a b; rfl
 rw [e1,e2]
 constructor
 ·rintro ⟨⟨a,b⟩,_,c⟩
  exact ⟨a,b,by omega⟩
 ·rintro ⟨a,b,c⟩
  exact ⟨⟨a,b⟩,a,by omega⟩
/-- the next one -/
def nx (us : List T) (so k : Nat) : Nat := (cs us).ch (Sl us.length so) k
theorem nx_ok {us : List T} (h : us.all tOk = true) (h5 : us.length ≤ 5) {so k : Nat} (h1 : 1 ≤ k) (hk : k ≤ hdN us.length so) :
  nx us so k < us.length ∧ so.testBit (nx us so k) = true ∧ (bB us so k).testBit (nx us so k) = true ∧ ∀ i,i < nx us so k → (bB us so k).testBit i = false := by
 have ok := cs_ok h
 obtain ⟨m,a,b⟩ := ok.ch (Sl us.length so) k (Sl_nd _ _) (fun x hx => (Sl_mem.1 hx).1) h1 (by rw [Sl_len]; exact hk)
 have mb : nx us so k ∈ bothL us (Sl us.length so) k := by
  unfold bothL
  rw [List.mem_filter,Bool.and_eq_true,decide_eq_true_eq,decide_eq_true_eq]
  exact ⟨m,a,b⟩
 refine ⟨(Sl_mem.1 m).1,(Sl_mem.1 m).2,by rw [bB_bit h h5 hk]; simpa using mb,fun i hi => ?_⟩
 rw [bB_bit h h5 hk,decide_eq_false_iff_not]
 intro q
 have e : nx us so k = (bothL us (Sl us.length so) k).headD 0 := rfl
 have pw : (bothL us (Sl us.length so) k).Pairwise (· < ·) := by
  unfold bothL Sl
  exact (List.pairwise_lt_range.filter _).filter _
 rw [e] at hi
 cases hb : bothL us (Sl us.length so) k with
 | nil => rw [hb] at q; cases q
 | cons x r =>
  rw [hb] at q hi pw
  simp only [List.headD_cons] at hi
  rcases List.mem_cons.1 q with c | c
  ·omega
  ·have := (List.pairwise_cons.1 pw).1 i c
   omega
def vS (us : List T) (so k : Nat) : Int := (cs us).V (Sl us.length so) k
def wS (us : List T) (so k j : Nat) : Int := cA us j * 6 ^ hdN us.length so + (6 - pA us j) * vS us (so - 2 ^ j) k + pA us j * vS us (so - 2 ^ j) (k - 1)
theorem subS_fin : ∀ (a : _root_.Fin 32) (j i : _root_.Fin 5),a.val.testBit j.val = true → (a.val - 2 ^ j.val).testBit i.val = (a.val.testBit i.val && decide (i.val ≠ j.val)) := by decide +kernel
theorem Sl_sub {m so j : Nat} (hm : m ≤ 5) (hs : so < 2 ^ m) (hj : j ∈ Sl m so) : Sl m (so - 2 ^ j) = (Sl m so).erase j := by
 have : (2 : Nat) ^ m ≤ 2 ^ 5 := Nat.pow_le_pow_right (by omega) hm
 obtain ⟨j1,j2⟩ := Sl_mem.1 hj
 rw [(Sl_nd m so).erase_eq_filter]
 unfold Sl
 rw [List.filter_filter]
 refine List.filter_congr fun i hi => ?_
 have hi := List.mem_range.1 hi
 rw [subS_fin ⟨so,by omega⟩ ⟨j,by omega⟩ ⟨i,by omega⟩ j2]
 simp only
 by_cases c : i = j
 ·subst c; simp
 ·simp [c]
theorem vS_zero (us : List T) {so k : Nat} (h : k = 0 ∨ hdN us.length so < k) : vS us so k = 0 := V_zero _ _ (by rw [Sl_len]; exact h)
theorem wS_W {us : List T} (h5 : us.length ≤ 5) {so k j : Nat} (hs : so < 2 ^ us.length) (hj : j ∈ Sl us.length so) : wS us so k j = (cs us).W (Sl us.length so) k j := by
 unfold wS vS CS.W
 rw [Sl_sub h5 hs hj,Sl_len]
 have e1 : (cs us).c j = cA us j := rfl
 have e2 : (cs us).p j = pA us j := rfl
 have e3 : (cs us).q j = 6 - pA us j := rfl
 rw [e1,e2,e3]
 grind
theorem vS_step {us : List T} (h : us.all tOk = true) (h5 : us.length ≤ 5) {so k : Nat} (hs : so < 2 ^ us.length) (h1 : 1 ≤ k) (hk : k ≤ hdN us.length so) : vS us so k = wS us so k (nx us so k) := by
 obtain ⟨a,b,_⟩ := nx_ok h h5 h1 hk
 rw [wS_W h5 hs (Sl_mem.2 ⟨a,b⟩)]
 exact V_step (cs_ok h) (Sl_nd _ _) (fun x hx => (Sl_mem.1 hx).1) h1 (by rw [Sl_len]; exact hk)
theorem vS_le {us : List T} (h : us.all tOk = true) (h5 : us.length ≤ 5) {so k j : Nat} (hs : so < 2 ^ us.length) (h1 : 1 ≤ k) (hk : k ≤ hdN us.length so) (hj : j ∈ Sl us.length so) : vS us so k ≤ wS us so k j := by
 rw [wS_W h5 hs hj]
 exact count_rule (cs_ok h) (Sl_nd _ _) (fun x hx => (Sl_mem.1 hx).1) h1 (by rw [Sl_len]; exact hk) hj
theorem hdN_sub {m so j : Nat} (hm : m ≤ 5) (hs : so < 2 ^ m) (hj : j ∈ Sl m so) : hdN m (so - 2 ^ j) + 1 = hdN m so := by
 rw [← Sl_len,← Sl_len,Sl_sub hm hs hj,List.length_erase_of_mem hj]
 have := List.length_pos_of_mem hj
 omega
theorem sum_c {us : List T} (h : us.all tOk = true) : ∀ l : List Nat,(l.map (cA us)).sum ≤ 9 * l.length ∧ 0 ≤ (l.map (cA us)).sum
 | [] => by simp
 | a :: r => by
  have := sum_c h r
  have := cA_nn h a
  simp only [List.map_cons,List.sum_cons,List.length_cons]
  omega
theorem vS_bd {us : List T} (h : us.all tOk = true) (h5 : us.length ≤ 5) (so k : Nat) : 0 ≤ vS us so k ∧ vS us so k ≤ 6 ^ hdN us.length so * 45 := by
 obtain ⟨a,b⟩ := V_bd (cs_ok h) (hdN us.length so) (Sl us.length so) (Sl_len _ _) (Sl_nd _ _) (fun x hx => (Sl_mem.1 hx).1) k
 refine ⟨a,Int.le_trans b ?_⟩
 have := sum_c h (Sl us.length so)
 have hl := hd_le us.length so
 rw [Sl_len] at this
 exact Int.mul_le_mul_of_nonneg_left (show ((Sl us.length so).map (cA us)).sum ≤ 45 by omega) (Int.pow_nonneg (by omega))
end
section
attribute [-simp] DV.cells sliceD
attribute [local simp] cells_st cells_sl cells_i cells_y cells_b cells_s cells_w
/-- how many bits are ones,one by one -/
def hb : Nat → Nat → Nat
 | 0,_ => 0
 | f + 1,n => n % 2 + hb f (n / 2)
def ctOk (us : List T) (k : Int) : Bool := tsOk us && decide (1 ≤ k ∧ k ≤ us.length)
theorem ctOk_iff {us : List T} {k : Int} : ctOk us k = true ↔ tsOk us = true ∧ 1 ≤ k ∧ k ≤ us.length := by
 unfold ctOk
 rw [Bool.and_eq_true,decide_eq_true_eq]
def cwT (us : List T) (k n : Nat) : Int := sumTo (fun s => if k ≤ hdN us.length s then wt us s else 0) n
theorem cwT_bd {us : List T} (h : tsOk us = true) (k n : Nat) (hn : n ≤ 32) : 0 ≤ cwT us k n ∧ cwT us k n ≤ 248832 := by
 have h' := tsOk_iff.1 h
 have := sumTo_nonneg (f := fun s => if k ≤ hdN us.length s then wt us s else 0) (B := 7776) (by omega) n (fun s _ => by
  have := wt_le h'.2 (by omega) (s : Int)
  show 0 ≤ (if k ≤ hdN us.length s then wt us s else 0) ∧ (if k ≤ hdN us.length s then wt us s else 0) ≤ (7776 : Int)
  split <;> omega)
 unfold cwT
 omega
def cwL (us : List T) (k : Int) : Int := if ctOk us k then cwN us k.toNat else -1
set_option maxHeartbeats 5000000 in
def mnW (us : List T) (so k mk : Nat) : Nat → Int
 | 0 => -1
 | i + 1 => if mk.testBit i = true then (if mnW us so k mk i = -1 ∨ wS us so k i < mnW us so k mk i then wS us so k i else mnW us so k mk i) else mnW us so k mk i
theorem mn_inv {us : List T} {so k mk : Nat} (h0 : 0 ≤ vS us so k) (hl : ∀ j,j < us.length → mk.testBit j = true → vS us so k ≤ wS us so k j) : ∀ i,i ≤ us.length → (mnW us so k mk i = -1 ∨ vS us so k ≤ mnW us so k mk i) ∧ ∀ j,j < i → mk.testBit j = true → mnW us so k mk i ≠ -1 ∧ mnW us so k mk i ≤ wS us so k j
 | 0,_ => ⟨.inl rfl,fun j hj => absurd hj (by omega)⟩
 | i + 1,hi => by
  obtain ⟨a,b⟩ := mn_inv h0 hl i (by omega)
  have li := hl i (by omega)
  simp only [mnW]
  by_cases c : mk.testBit i = true
  ·rw [if_pos c]
   have li := li c
   by_cases d : mnW us so k mk i = -1 ∨ wS us so k i < mnW us so k mk i
   ·rw [if_pos d]
    refine ⟨.inr li,fun j hj hm => ?_⟩
    by_cases e : j = i
    ·subst e
     exact ⟨by omega,Int.le_refl _⟩
    ·obtain ⟨b1,b2⟩ := b j (by omega) hm
     rcases d with d | d
     ·exact absurd d b1
     ·exact ⟨by omega,by omega⟩
   ·rw [if_neg d]
    refine ⟨a,fun j hj hm => ?_⟩
    by_cases e : j = i
    ·subst e
     exact ⟨fun q => d (.inl q),by omega⟩
    ·exact b j (by omega) hm
  ·rw [if_neg c]
   refine ⟨a,fun j hj hm => ?_⟩
   by_cases e : j = i
   ·subst e; exact absurd hm c
   ·exact b j (by omega) hm
theorem mn_all {us : List T} (h : us.all tOk = true) (h5 : us.length ≤ 5) {so k mk : Nat} (hs : so < 2 ^ us.length) (h1 : 1 ≤ k) (hk : k ≤ hdN us.length so) (hmk : ∀ j,j < us.length → mk.testBit j = true → so.testBit j = true) (hn : mk.testBit (nx us so k) = true) : mnW us so k mk us.length = vS us so k := by
 have v := vS_bd h h5 so k
 obtain ⟨a,b,_⟩ := nx_ok h h5 h1 hk
 obtain ⟨i1,i2⟩ := mn_inv (mk := mk) v.1 (fun j hj hm => vS_le h h5 hs h1 hk (Sl_mem.2 ⟨hj,hmk j hj hm⟩)) us.length (Nat.le_refl _)
 obtain ⟨q1,q2⟩ := i2 _ a hn
 rw [← vS_step h h5 hs h1 hk] at q2
 rcases i1 with e | e
 ·exact absurd e q1
 ·omega
theorem p6h {m so : Nat} (hm : m ≤ 5) : (1 : Int) ≤ 6 ^ hdN m so ∧ (6 : Int) ^ hdN m so ≤ 7776 := p6 (by have := hd_le m so; omega)
theorem vS_up {us : List T} (h : us.all tOk = true) (h5 : us.length ≤ 5) (so k : Nat) : 0 ≤ vS us so k ∧ vS us so k ≤ 349920 := by
 have := vS_bd h h5 so k
 have p := p6h (so := so) h5
 refine ⟨this.1,?_⟩
 have : (6 : Int) ^ hdN us.length so * 45 ≤ 7776 * 45 := by omega
 omega
theorem sub_lt {m so j : Nat} (hs : so < 2 ^ m) : so - 2 ^ j < 2 ^ m := Nat.lt_of_le_of_lt (Nat.sub_le _ _) hs
end
section
attribute [-simp] DV.cells
attribute [local simp] sliceD cells_st cells_sl cells_i cells_y cells_b cells_s cells_w
theorem quo29 {x : Int} (h0 : 0 ≤ x) (h1 : x < 30) : x.tdiv 29 = 0 ∨ x.tdiv 29 = 1 := by
 rw [Int.tdiv_eq_ediv_of_nonneg h0]; omega
set_option maxHeartbeats 4000000 in
theorem c_l20Count {bs : List Nat} (hb : ∀ y ∈ bs,y < 256) (hl : bs.length ≤ 2000) {p : Int} (h0 : 0 ≤ p) (h1 : p < 500000) :
  ∃ (us : List T) (k p' : Int),us.length ≤ 5 ∧ (-10 ≤ k ∧ k ≤ 10) ∧ call lf n_spec_l20Count [.ref (.st [.sl 0 (bs.map .y),.i p])] = some (.tup [.fr 2 (us.map e2),.i k],[.st [.sl 0 (bs.map .y),.i p']]) := by
 obtain ⟨us,q,u1,q1,q2,h⟩ := c_l20Tests hb hl (p := p) (n := 14) h0 (by omega) (by omega) (by omega)
 obtain ⟨n,hn⟩ : ∃ n,max (us.length : Int) 1 = n := ⟨_,rfl⟩
 have k1 := c_pick hb hl (p := q) (n := n) (by omega) (by omega) (by omega)
 have a1 := pk_bound hb (p := q) (n := n) (by omega) (by omega) (by omega)
 have k2 := c_pick hb hl (p := q + 1) (n := 30) (by omega) (by omega) (by omega)
 have a2 := pk_bound hb (p := q + 1) (n := 30) (by omega) (by omega) (by omega)
 have k3 := c_pick hb hl (p := q + 1 + 1) (n := 40) (by omega) (by omega) (by omega)
 have a3 := pk_bound hb (p := q + 1 + 1) (n := 40) (by omega) (by omega) (by omega)
 have q2' := quo29 a2.1 a2.2
 have q3' := quo39 a3.1 a3.2
 have w1 : wr ((pk bs (q + 1) 30).tdiv 29) = (pk bs (q + 1) 30).tdiv 29 := wr_id (by omega) (by omega)
 have w2 : wr ((pk bs (q + 1 + 1) 40).tdiv 39) = (pk bs (q + 1 + 1) 40).tdiv 39 := wr_id (by omega) (by omega)
 have w3 : wr (1 + pk bs q n) = 1 + pk bs q n := wr_id (by omega) (by omega)
 have w4 : wr (1 + pk bs q n + (pk bs (q + 1) 30).tdiv 29) = 1 + pk bs q n + (pk bs (q + 1) 30).tdiv 29 := wr_id (by omega) (by omega)
 have w5 : wr ((pk bs (q + 1 + 1) 40).tdiv 39 * 2) = (pk bs (q + 1 + 1) 40).tdiv 39 * 2 := wr_id (by omega) (by omega)
 have w6 : wr (1 + pk bs q n + (pk bs (q + 1) 30).tdiv 29 - (pk bs (q + 1 + 1) 40).tdiv 39 * 2) = 1 + pk bs q n + (pk bs (q + 1) 30).tdiv 29 - (pk bs (q + 1 + 1) 40).tdiv 39 * 2 := wr_id (by omega) (by omega)
 refine ⟨us,1 + pk bs q n + (pk bs (q + 1) 30).tdiv 29 - (pk bs (q + 1 + 1) 40).tdiv 39 * 2,q + 1 + 1 + 1,u1,by omega,?_⟩
 rw [call_k lf n_spec_l20Count _ (F := F_spec_l20Count) rfl rfl]
 simp [F_spec_l20Count,h,hn,k1,k2,k3,w1,w2,w3,w4,w5,w6]
theorem c_DrawCountBest {bs : List Nat} (hb : ∀ y ∈ bs,y < 256) (hl : bs.length ≤ 1048576) :
  ∃ (us : List T) (k : Int),us.length ≤ 5 ∧ (-10 ≤ k ∧ k ≤ 10) ∧ call lf n_spec_DrawCountBest [.sl 0 (bs.map .y)] = some (.tup [.fr 2 (us.map e2),.i k],[]) := by
 obtain ⟨c1,c2⟩ := take_b hb
 have o := c_open hl
 generalize bs.take 2000 = cs at *
 obtain ⟨us,k,p',u1,k1,h⟩ := c_l20Count c1 c2 (p := 0) (by omega) (by omega)
 refine ⟨us,k,u1,k1,?_⟩
 have tk2 : List.take us.length (us.map e2) = us.map e2 := List.take_of_length_le (by simp)
 rw [call_k lf n_spec_DrawCountBest _ (F := F_spec_DrawCountBest) rfl rfl]
 simp [F_spec_DrawCountBest,o,h,tk2]
end
section
attribute [-simp] DV.cells
attribute [local simp] sliceD cells_st cells_sl cells_i cells_y cells_b cells_s cells_w
theorem us_cell {us : List T} (h : us.all tOk = true) {i : Nat} (hi : i < us.length) : ∃ c q : Int,atI (us.map e2) (i : Nat) = some (.st [.i c,.i q]) ∧ atN (us.map e2) i = some (.st [.i c,.i q]) ∧ c = cA us i ∧ q = pA us i ∧ (1 ≤ c ∧ c ≤ 9) ∧ (1 ≤ q ∧ q ≤ 5) := by
 obtain ⟨c,q,c1,c2,c3⟩ := cA_at (us := us) (a := (i : Int)) (by omega) (by omega)
 rw [Int.toNat_natCast] at c2 c3
 have e : us.getD i (0,0) = us[i] := by simp [List.getD,hi]
 have tq := tOk_iff.1 (List.all_eq_true.1 h us[i] (List.getElem_mem hi))
 rw [← e,c3] at tq
 refine ⟨c,q,c1,?_,c2,by unfold pA; rw [c3],tq.1,tq.2⟩
 rw [← c1]
 simp only [atI,if_pos (Int.natCast_nonneg i)]
 rfl
set_option maxHeartbeats 8000000 in
def cvL (us : List T) (k : Int) : Int := if ctOk us k then vS us (2 ^ us.length - 1) k.toNat else -1
theorem full_hd {m : Nat} (hm : m ≤ 5) : hdN m (2 ^ m - 1) = m := by
 have : m = 0 ∨ m = 1 ∨ m = 2 ∨ m = 3 ∨ m = 4 ∨ m = 5 := by omega
 rcases this with rfl | rfl | rfl | rfl | rfl | rfl <;> decide +kernel
end
section
attribute [-simp] DV.cells
attribute [local simp] sliceD cells_st cells_sl cells_i cells_y cells_b cells_s cells_w
theorem c_impl_CountOk (us : List T) (k : Int) (ha : (us.length : Int) < 1099511627776) : call lf n_impl_CountOk [.sl 0 (us.map e2),.i k] = some (.b (ctOk us k),[]) := by
 have C1 := c_impl_TestsOk us ha
 have C2 := c_impl_isWithin k 1 us.length
 rw [call_k lf n_impl_CountOk _ (F := F_impl_CountOk) rfl rfl]
 unfold ctOk
 cases h : tsOk us <;> rw [h] at C1 <;> simp [F_impl_CountOk,C1,C2]
def stCwi (us : List T) (k : Nat) (N : Int) (i : Nat) : LS := ⟨[(0,.sl 0 (us.map e2)),(1,.i k),(5,.i (cwT us k i)),(13,.i N),(14,.i i)],[]⟩
set_option maxHeartbeats 4000000 in
theorem c_impl_CountWeight (us : List T) (k : Int) (ha : (us.length : Int) < 1099511627776) : call lf n_impl_CountWeight [.sl 0 (us.map e2),.i k] = some (.i (cwL us k),[]) := by
 have C1 := c_impl_CountOk us k ha
 rw [call_k lf n_impl_CountWeight _ (F := F_impl_CountWeight) rfl rfl]
 unfold cwL
 cases h : ctOk us k with
 | false =>
  rw [h] at C1
  simp [F_impl_CountWeight,C1]
 | true =>
  rw [h] at C1
  obtain ⟨h1,k1,k2⟩ := ctOk_iff.1 h
  obtain ⟨n,rfl⟩ := Int.eq_ofNat_of_zero_le (show 0 ≤ k by omega)
  have ht := tsOk_iff.1 h1
  obtain ⟨p0,p1,p2⟩ := pow5 (m := us.length) (by omega) (by omega)
  have S := c_impl_statesOf us.length (by omega) (by omega)
  rw [← p2] at S
  rw [Int.toNat_natCast] at p0 p1 p2 S
  have L := loop_count (lf := lf) (L := F_impl_CountWeight_L0) (2 ^ us.length) (fun i => stCwi us n ((2 ^ us.length : Nat) : Int) i) (x := .exit 0) (R := stCwi us n ((2 ^ us.length : Nat) : Int) (2 ^ us.length)) (fun i hi => by
   have C2 := c_impl_sizeOf (n := i) (by omega)
   have C3 := c_impl_WeightOf us (i : Nat) ha
   have so : stOk us.length (i : Nat) = true := by unfold stOk; simp [nOk]; omega
   have wo : wtOf us (i : Nat) = wt us (i : Nat) := by unfold wtOf; rw [h1,so]; rfl
   rw [wo] at C3
   rw [pcs (by omega) hi] at C2
   have b1 := cwT_bd h1 n i (by omega)
   have b2 := cwT_bd h1 n (i + 1) (by omega)
   have e : cwT us n (i + 1) = cwT us n i + if n ≤ hdN us.length i then wt us i else 0 := rfl
   have w1 : wr ((i : Int) + 1) = ((i + 1 : Nat) : Int) := by rw [wr_id (by omega) (by omega)]; omega
   have hi' : (i : Int) < ((2 ^ us.length : Nat) : Int) := by omega
   unfold stCwi
   rw [e]
   rw [e] at b2
   generalize cwT us n i = z at *
   generalize wt us i = v at *
   generalize (2 ^ us.length : Nat) = N at *
   by_cases hh : n ≤ hdN us.length i
   ·rw [if_pos hh] at b2
    rw [if_pos hh]
    have w2 : wr (z + v) = z + v := wr_id (by omega) (by omega)
    have h2 : (n : Int) ≤ (hdN us.length i : Nat) := by omega
    generalize hdN us.length i = d at *
    simp [F_impl_CountWeight_L0,hi,hi',C2,C3,h2,hh,w1,w2,-Int.natCast_add]
   ·rw [if_neg hh]
    have h2 : ¬ (n : Int) ≤ (hdN us.length i : Nat) := by omega
    generalize hdN us.length i = d at *
    simp [F_impl_CountWeight_L0,hi,hi',C2,h2,hh,w1,-Int.natCast_add]) (by
   unfold stCwi
   generalize (2 ^ us.length : Nat) = N at *
   simp [F_impl_CountWeight_L0]) (by simp)
  have z : cwT us n 0 = 0 := rfl
  have fin : cwT us n (2 ^ us.length) = cwN us n := rfl
  unfold stCwi at L
  rw [z,fin] at L
  simp only [Int.natCast_zero] at L
  change ex lf F_impl_CountWeight_W0 _ = _ at L
  rw [Int.toNat_natCast]
  generalize (2 ^ us.length : Nat) = N at *
  simp [F_impl_CountWeight,C1,S,L]
theorem c_impl_allOf {us : List T} (h : tsOk us = true) : call lf n_impl_allOf [.sl 0 (us.map e2)] = some (.i ((2 ^ us.length - 1 : Nat) : Int),[]) := by
 have ht := tsOk_iff.1 h
 obtain ⟨p0,p1,p2⟩ := pow5 (m := us.length) (by omega) (by omega)
 have S := c_impl_statesOf us.length (by omega) (by omega)
 rw [← p2] at S
 rw [Int.toNat_natCast] at p0 p1 p2 S
 have w1 : wr (((2 ^ us.length : Nat) : Int) - 1) = ((2 ^ us.length - 1 : Nat) : Int) := by rw [wr_id (by omega) (by omega)]; omega
 rw [call_k lf n_impl_allOf _ (F := F_impl_allOf) rfl rfl]
 generalize (2 ^ us.length - 1 : Nat) = a at *
 generalize (2 ^ us.length : Nat) = b at *
 simp [F_impl_allOf,S,w1]
theorem andNot_fin : ∀ (a : _root_.Fin 32) (k : _root_.Fin 5),a.val.testBit k.val = true → andNotI (a.val : Int) ((2 ^ k.val : Nat) : Int) = ((a.val - 2 ^ k.val : Nat) : Int) := by decide +kernel
theorem andNot_bit {a k : Nat} (ha : a < 32) (hk : k < 5) (h : a.testBit k = true) : andNotI (a : Int) ((2 ^ k : Nat) : Int) = ((a - 2 ^ k : Nat) : Int) := andNot_fin ⟨a,ha⟩ ⟨k,hk⟩ h
theorem mn_step (us : List T) (so k mk i : Nat) (h : mk.testBit i = true) : mnW us so k mk (i + 1) = if mnW us so k mk i = -1 ∨ wS us so k i < mnW us so k mk i then wS us so k i else mnW us so k mk i := by simp only [mnW]; rw [if_pos h]
theorem mn_skip (us : List T) (so k mk i : Nat) (h : mk.testBit i = false) : mnW us so k mk (i + 1) = mnW us so k mk i := by simp only [mnW]; rw [if_neg (by rw [h]; simp)]
theorem c_CountBest_1 (so k : Nat) : call lf n_impl_CountBest_1 [.i so,.i k] = some (.i so,[]) := by
 rw [call_k lf n_impl_CountBest_1 _ (F := F_impl_CountBest_1) rfl rfl]
 simp [F_impl_CountBest_1]
def stLtB (us : List T) (so k mk : Nat) (b : Int) (i : Nat) : LS := ⟨[(0,.sl 0 (us.map e2)),(1,.i so),(2,.i k),(3,.fn n_impl_CountBest_1 []),(9,.i mk),(10,.i b),(29,.sl 0 (us.map e2)),(30,.i us.length),(31,.i i)],[]⟩
set_option maxHeartbeats 8000000 in
theorem c_leastToCountB {us : List T} (h : tsOk us = true) : ∀ (n so k : Nat),hdN us.length so = n → so < 2 ^ us.length → k ≤ 10 →
  call lf n_impl_leastToCount [.sl 0 (us.map e2),.i so,.i k,.fn n_impl_CountBest_1 []] = some (.i (vS us so k),[])
 | n,so,k,hn,hs,hk => by
  have ht := tsOk_iff.1 h
  have h5 : us.length ≤ 5 := by omega
  obtain ⟨p0,p1,p2⟩ := pow5 (m := us.length) (by omega) (by omega)
  rw [Int.toNat_natCast] at p0 p1 p2
  have H := c_impl_sizeOf (n := so) (by omega)
  rw [pcs h5 hs,hn] at H
  by_cases hz : k = 0 ∨ n < k
  ·rw [vS_zero us (by rw [hn]; exact hz)]
   rw [call_k lf n_impl_leastToCount _ (F := F_impl_leastToCount) rfl rfl]
   by_cases c : k = 0
   ·subst c
    simp [F_impl_leastToCount]
   ·have c1 : ((k : Int) == 0) = false := beq_eq_false_iff_ne.2 (by omega)
    have c2 : (n : Int) < k := by omega
    have c3 : n < k := by omega
    simp [F_impl_leastToCount,H,c1,c2,c3,c]
  ·have k1 : 1 ≤ k := by omega
   have kn : k ≤ n := by omega
   obtain ⟨f,rfl⟩ : ∃ f,n = f + 1 := ⟨n - 1,by omega⟩
   obtain ⟨mk,MC,mlt,msub,mnx⟩ : ∃ mk : Nat,call lf n_impl_CountBest_1 [.i so,.i k] = some (.i mk,[]) ∧ mk ≤ 4294967296 ∧ (∀ j,j < us.length → mk.testBit j = true → so.testBit j = true) ∧ mk.testBit (nx us so k) = true := ⟨so,c_CountBest_1 so k,by omega,fun _ _ q => q,(nx_ok ht.2 h5 k1 (by omega)).2.1⟩
   have LP := loop_count (lf := lf) (L := F_impl_leastToCount_L0) us.length (fun i => stLtB us so k mk (mnW us so k mk i) i) (x := .exit 0) (R := stLtB us so k mk (mnW us so k mk us.length) us.length) (fun i hi => by
    have w1 : wr ((i : Int) + 1) = ((i + 1 : Nat) : Int) := by rw [wr_id (by omega) (by omega)]; omega
    have hi' : (i : Int) < us.length := by omega
    obtain ⟨c,q,a1,a2,ec,eq,cb,qb⟩ := us_cell ht.2 hi
    have HT := c_impl_hasTest mk i (by omega)
    cases hb : mk.testBit i with
    | false =>
     rw [mn_skip us so k mk i hb]
     rw [hb] at HT
     generalize mnW us so k mk i = b at *
     unfold stLtB
     simp [F_impl_leastToCount_L0,hi,hi',a1,a2,HT,w1,-Int.natCast_add]
    | true =>
     have hsb := msub i hi hb
     have hj : i ∈ Sl us.length so := Sl_mem.2 ⟨hi,hsb⟩
     have hd := hdN_sub h5 hs hj
     have s2 := sub_lt (j := i) hs
     have G1 := c_leastToCountB h f (so - 2 ^ i) (k - 1) (by omega) s2 (by omega)
     have G0 := c_leastToCountB h f (so - 2 ^ i) k (by omega) s2 (by omega)
     have v1 := vS_up ht.2 h5 (so - 2 ^ i) (k - 1)
     have v0 := vS_up ht.2 h5 (so - 2 ^ i) k
     have A := c_averageAsking (n := f + 1) (by have := hd_le us.length so; omega) cb qb (no := vS us (so - 2 ^ i) k) (yes := vS us (so - 2 ^ i) (k - 1)) (by omega) (by omega)
     have ew : wS us so k i = c * 6 ^ (f + 1) + (6 - q) * vS us (so - 2 ^ i) k + q * vS us (so - 2 ^ i) (k - 1) := by
      unfold wS
      rw [hn,← ec,← eq]
     rw [← ew] at A
     rw [mn_step us so k mk i hb]
     have sh : shlI 1 (i : Nat) = ((2 ^ i : Nat) : Int) := by rw [shl1 (by omega) (by omega),Int.toNat_natCast]; simp
     have an := andNot_bit (a := so) (k := i) (by omega) (by omega) hsb
     have w3 : wr ((k : Int) - 1) = ((k - 1 : Nat) : Int) := by rw [wr_id (by omega) (by omega)]; omega
     have ni : ¬ (i : Int) < 0 := by omega
     rw [hb] at HT
     clear ew
     generalize wS us so k i = s at *
     generalize vS us (so - 2 ^ i) k = x0 at *
     generalize vS us (so - 2 ^ i) (k - 1) = x1 at *
     generalize (so - 2 ^ i : Nat) = so' at *
     generalize (2 ^ i : Nat) = tp at *
     generalize mnW us so k mk i = b at *
     generalize (k - 1 : Nat) = k' at *
     generalize f + 1 = g at *
     unfold stLtB
     by_cases d1 : b = -1
     ·rw [if_pos (.inl d1)]
      subst d1
      simp [F_impl_leastToCount_L0,hi,hi',ni,a1,a2,HT,sh,an,H,A,w1,w3,G0,G1,-Int.natCast_add,-Int.natCast_pow]
     ·have d1' : (b == -1) = false := beq_eq_false_iff_ne.2 d1
      by_cases d2 : s < b
      ·rw [if_pos (.inr d2)]
       simp [F_impl_leastToCount_L0,hi,hi',ni,a1,a2,HT,sh,an,H,A,w1,w3,G0,G1,d1',d2,-Int.natCast_add,-Int.natCast_pow]
      ·rw [if_neg (fun q => q.elim d1 d2)]
       simp [F_impl_leastToCount_L0,hi,hi',ni,a1,a2,HT,sh,an,H,A,w1,w3,G0,G1,d1',d2,-Int.natCast_add,-Int.natCast_pow]) (by
    generalize mnW us so k mk us.length = b at *
    unfold stLtB
    simp [F_impl_leastToCount_L0]) (by simp)
   have a := mn_all (us := us) (so := so) (k := k) (mk := mk) ht.2 h5 hs k1 (by omega) msub mnx
   have z : mnW us so k mk 0 = -1 := rfl
   rw [a,z] at LP
   unfold stLtB at LP
   simp only [Int.natCast_zero] at LP
   change ex lf F_impl_leastToCount_W0 _ = _ at LP
   have c1 : ((k : Int) == 0) = false := beq_eq_false_iff_ne.2 (by omega)
   have c2 : ¬ ((f + 1 : Nat) : Int) < k := by omega
   have c3 : ¬ f + 1 < k := by omega
   generalize vS us so k = V at *
   generalize f + 1 = g at *
   rw [call_k lf n_impl_leastToCount _ (F := F_impl_leastToCount) rfl rfl]
   simp [F_impl_leastToCount,H,c1,c2,c3,MC,LP]
theorem c_impl_CountBest (us : List T) (k : Int) (ha : (us.length : Int) < 1099511627776) : call lf n_impl_CountBest [.sl 0 (us.map e2),.i k] = some (.i (cvL us k),[]) := by
 have C1 := c_impl_CountOk us k ha
 rw [call_k lf n_impl_CountBest _ (F := F_impl_CountBest) rfl rfl]
 unfold cvL
 cases h : ctOk us k with
 | false =>
  rw [h] at C1
  simp [F_impl_CountBest,C1]
 | true =>
  rw [h] at C1
  obtain ⟨h1,k1,k2⟩ := ctOk_iff.1 h
  obtain ⟨n,rfl⟩ := Int.eq_ofNat_of_zero_le (show 0 ≤ k by omega)
  have ht := tsOk_iff.1 h1
  obtain ⟨p0,p1,p2⟩ := pow5 (m := us.length) (by omega) (by omega)
  rw [Int.toNat_natCast] at p0 p1 p2 ⊢
  have A := c_impl_allOf h1
  have G := c_leastToCountB h1 us.length (2 ^ us.length - 1) n (full_hd (by omega)) (by omega) (by omega)
  generalize (2 ^ us.length - 1 : Nat) = a at *
  generalize vS us a n = V at *
  simp [F_impl_CountBest,C1,A,G]
end
section
attribute [-simp] DV.cells
attribute [local simp] sliceD cells_st cells_sl cells_i cells_y cells_b cells_s cells_w
theorem fullB_fin : ∀ (m : _root_.Fin 6) (k : _root_.Fin 5),k.val < m.val → (2 ^ m.val - 1).testBit k.val = true := by decide +kernel
theorem SlB_full {m : Nat} (hm : m ≤ 5) : Sl m (2 ^ m - 1) = List.range m := by
 unfold Sl
 refine List.filter_eq_self.2 fun k hk => ?_
 have hk := List.mem_range.1 hk
 exact fullB_fin ⟨m,by omega⟩ ⟨k,by omega⟩ hk
end
section
attribute [-simp] DV.cells
attribute [local simp] sliceD cells_st cells_sl cells_i cells_y cells_b cells_s cells_w
def t23 : List T := [(0,0),(0,1),(2,0),(0,0),(0,2),(2,0),(3,0),(0,1),(0,2),(2,0),(3,0)]
def s23 : List UInt8 := [97,38,98,124,97,38,99,124,98,38,99]
theorem rd23 : rdOf 3 s23 = some t23 := by decide +kernel
theorem tm23 : tmOk 3 t23 = true := by decide +kernel
theorem tv23 : ∀ s : _root_.Fin 8,tv t23 s.val = decide (2 ≤ hdN 3 s.val) := by decide +kernel
set_option maxHeartbeats 8000000 in
theorem law_FnTwoOfThree (x : List Nat) (_ : x.length ≤ Go.maxLen) (hb : ∀ y ∈ x,y < 256) : call lf n_laws_FnTwoOfThree [bys x] = some (.b true,[]) := by
 show call lf n_laws_FnTwoOfThree [.sl 0 (x.map .y)] = _
 rw [call_k lf n_laws_FnTwoOfThree _ (F := F_laws_FnTwoOfThree) rfl rfl]
 by_cases hl : 1048576 < (x.length : Int)
 ·simp (config := { maxSteps := 2000000 }) [F_laws_FnTwoOfThree,hl]
 ·obtain ⟨us,k,u1,k1,d⟩ := c_DrawCountBest hb (by omega)
  have C1 := c_spec_TestsOk us (by omega)
  have lb1 : us.length ≤ bound := by unfold bound; omega
  have tk1 := tk_e2 us
  cases h : tsOk us with
  | false =>
   rw [h] at C1
   simp (config := { maxSteps := 2000000 }) [F_laws_FnTwoOfThree,hl,d,C1,lb1,tk1,c_alive]
  | true =>
   rw [h] at C1
   by_cases h3 : us.length < 3
   ·have h3' : (us.length : Int) < 3 := by omega
    simp (config := { maxSteps := 2000000 }) [F_laws_FnTwoOfThree,hl,d,C1,h3,h3',lb1,tk1,c_alive]
   ·have h3' : ¬ (us.length : Int) < 3 := by omega
    have ht := tsOk_iff.1 h
    obtain ⟨vs,hv⟩ : ∃ vs,vs = us.take 3 := ⟨_,rfl⟩
    have vl : vs.length = 3 := by rw [hv,List.length_take]; omega
    have va : vs.all tOk = true := by
     rw [hv,List.all_eq_true]
     exact fun t hm => List.all_eq_true.1 ht.2 t (List.mem_of_mem_take hm)
    have hv1 : tsOk vs = true := by unfold tsOk; rw [vl,va]; rfl
    have em : List.take 3 (us.map e2) = vs.map e2 := by rw [hv,List.map_take]
    have R := c_impl_ReadTerm 3 s23 (by decide)
    rw [rd23] at R
    have lt : t23.length = 11 := rfl
    have B := c_impl_BestAverage vs t23 (by omega) (by rw [lt]; omega)
    have K := c_impl_CountBest vs 2 (by omega)
    have W := c_impl_TrueWeight vs t23 (by omega) (by rw [lt]; omega)
    have Q := c_impl_CountWeight vs 2 (by omega)
    have c2 : ctOk vs 2 = true := ctOk_iff.2 ⟨hv1,by omega,by omega⟩
    have tv' : ∀ s,s < 2 ^ vs.length → tv t23 s = decide (2 ≤ hdN vs.length s) := fun s hs => by
     rw [vl] at hs ⊢
     exact tv23 ⟨s,hs⟩
    have eB : baOf vs t23 = cvL vs 2 := by
     unfold baOf
     rw [hv1,show tmOk vs.length t23 = true by rw [vl]; exact tm23]
     simp only [Bool.and_self,if_true]
     rw [cBest va tv']
     unfold cvL
     rw [c2,if_pos rfl]
     unfold vS
     rw [SlB_full (by omega)]
     rfl
    have eW : twOf vs t23 = cwL vs 2 := by
     unfold twOf
     rw [hv1,show tmOk vs.length t23 = true by rw [vl]; exact tm23]
     simp only [Bool.and_self,if_true]
     unfold cwL
     rw [c2,if_pos rfl]
     unfold tw cwN
     refine sumTo_congr fun s hs => ?_
     unfold twP
     rw [tv' s hs]
     show (if decide (2 ≤ hdN vs.length s) = true then _ else _) = if 2 ≤ hdN vs.length s then _ else _
     by_cases c : 2 ≤ hdN vs.length s
     ·rw [if_pos c,if_pos (decide_eq_true c)]
     ·rw [if_neg c,if_neg (by rw [decide_eq_false c]; simp)]
    rw [eB] at B
    rw [eW] at W
    simp only [Option.getD_some,Option.isSome_some] at R
    have sl : (s23 : List UInt8) = [97,38,98,124,97,38,99,124,98,38,99] := rfl
    rw [sl] at R
    have ml : (t23.map e2).length = 11 := by rw [List.length_map,lt]
    have tk2 : List.take 11 (t23.map e2) = t23.map e2 := List.take_of_length_le (by rw [ml]; exact Nat.le_refl _)
    have lE := lend_e2 t23
    have aE := fun o => adopt_e2 o t23
    have nE := new_e2 t23
    have lV := lend_e2 vs
    have lU := lend_e2 us
    have ul : (us.map e2).length = us.length := by simp
    have nU := new_e2 us
    have aU := fun o => adopt_e2 o us
    have n3 : 3 ≤ us.length := by omega
    have n3' : (3 : Int) ≤ us.length := by omega
    have l11 : 11 ≤ bound := by decide
    clear eB eW tv'
    generalize t23.map e2 = M at *
    generalize us.map e2 = U at *
    generalize vs.map e2 = V at *
    generalize cvL vs 2 = X at *
    generalize cwL vs 2 = Y at *
    simp (config := { maxSteps := 2000000 }) [F_laws_FnTwoOfThree,hl,d,C1,h3,h3',n3,n3',R,B,K,W,Q,em,lb1,tk1,tk2,ml,lE,aE,nE,lV,lU,ul,nU,aU,l11,c_alive,-Int.natCast_add]
end
end Zz
