/- What the functions answer, as equations: EA. No conditions. -/
import Derived.Test.YtffghabijlfpeaaDoorIrzy
import Derived.Test.YtffghabijlfpeaaDoorE0
import Derived.Test.YtffghabijlfpeaaDoorLgEzy
import Derived.Test.YtffghabijlfpeaaDoorLgFzy
set_option linter.unusedSectionVars false
set_option linter.unusedVariables false
set_option linter.unusedSimpArgs false
namespace Zz
open Go.Lg Md
set_option linter.unusedSimpArgs false
set_option linter.unusedVariables false
attribute [local simp] tm_mv tm_newnil tm_pick tm_bin tm_eqb tm_eqs tm_un tm_len tm_lens tm_chk tm_fld tm_fldv tm_idxa tm_idx tm_load tm_store tm_slice tm_slices tm_make tm_alloc tm_box tm_build tm_app tm_conv tm_ext tm_call tm_calld tm_mkfn tm_mm tm_idxp tm_eqn tm_callg tm_callm tm_bslice0 tm_bslice1 tm_bslice2 tm_bslice cw_nil cw_cons cd_none cd_some ec_nil ec_cons es_nil es_one es_more nn_nil nn_cons ns_nil ns_cons si_nil si_cons sk_t stod_oad stod_own stod_adr stod_dead ml_nil ml_cons nt_nil nt_cons nc_nil' nc_cons sa_mkfn cv_adr cv_i cv_y cv_b cv_w sa_calld nm_def nh_nil nh_cons nxM_some nxM_none sc_st sd_i sd_y sd_b sd_s sd_w sd_q sc_i sc_y sc_b sc_s sc_w sc_q sa_bslice sa_app nc_own nc_nil sa_call sa_alloc sa_build sa_callm rm_nil rm_one rm_gen bq_mul bq_eql ia_mv ia_newnil ia_pick ia_bin ia_eqb ia_eqs ia_un ia_len ia_lens ia_chk ia_fld ia_fldv ia_idxa ia_idx ia_load ia_store ia_slice ia_slices ia_make ia_alloc ia_box ia_build ia_bslice ia_app ia_b2i ia_i2b ia_i2i ia_same ia_b2s ia_s2b ia_ext ia_mm ia_idxp ia_calld ia_mkfn ia_i2r ia_r2s ia_call pt_nil pt_cons mi_nil mi_cons md_bslice md_mv md_newnil md_pick md_bin md_eqb md_un md_len md_lens md_fld md_fldv md_idxa md_idx md_load md_store md_slice md_slices md_make md_alloc md_box md_build md_app md_conv md_ext md_call md_calld md_callg md_mkfn md_mm md_idxp md_eqn md_eqs md_chk tg_bslice tg_mv tg_newnil tg_pick tg_bin tg_eqb tg_un tg_len tg_lens tg_fld tg_fldv tg_idxa tg_idx tg_load tg_store tg_slice tg_slices tg_make tg_alloc tg_box tg_build tg_app tg_conv tg_ext tg_call tg_calld tg_callg tg_mkfn tg_mm tg_idxp tg_eqn tg_eqs tg_chk rp_eq ro_eq ifP_t ifP_f np_def ng1_nil ng2_nil ng_gate ng_gen tgA_t tgA_0 tgA_1 tgA_2 aC_nil aC_c aC_t rS_def nb_def tv_b2i tv_i2b tv_i2i tv_s2b tv_b2s tv_same tv_i2r tv_r2s tv_i2q tv_q2i tv_q2q nxZ_some nxZ_none rz_nil rz_gen nxP_some nxP_none rq_nil rq_gen rq_gate nxR_some nxR_none ru_nil ru_gen ru_gate pl_none pl_some gt_nil gt_t gt_c di_some di_none an_nil an_cons nxG_some nxG_none rg_nil rg_gen rg_gate oldO_some oa_nil oa_i oa_y oa_b oa_s oa_st oa_sl oa_own oa_oad oa_nl al_nil al_cons al_i al_y al_b al_s al_st al_sl nxF_some nxF_none rf_nil rf_gen rf_gate hk_newnil hk_make hk_alloc hk_box hk_build hk_bslice hk_call hk_store hk_app hk_appn em_cel mm_cel ok_cel ov_cel so_cel il_cel oi_cel oj_cel ol_cel nm_cel hk_appc ef_bslice5 ef_app_cel ks_shut shu_own shc_none shc_cel cl_nil cl_cons ai_nil ai_cons il_i il_y il_b il_s il_st il_sl il_own il_adr il_oad il_ref il_fr il_tup il_nil il_np il_und il_dead ol_adr ol_b ol_dead ol_e ol_fn ol_fr ol_i ol_nil ol_np ol_oad ol_own ol_q ol_r ol_ref ol_s ol_sl ol_st ol_tup ol_und ol_w ol_y oj_e oj_i oj_y oj_b oj_s oj_st oj_sl oj_own oj_adr oj_oad oj_ref oj_fr oj_tup oj_nil oj_np oj_und oj_dead oj_w oj_q oj_r oj_fn oi_e oi_i oi_y oi_b oi_s oi_st oi_sl oi_own oi_adr oi_oad oi_ref oi_fr oi_tup oi_nil oi_np oi_und oi_dead as_nil as_cons ao_nil ao_cons av_i av_y av_b av_s av_st av_sl av_own av_adr av_oad av_ref av_fr av_tup av_nil av_np av_und av_dead pro_cons ghK_some ks_promote ks_freeze frz_own ks_rename ren_own ks_cell cel_own dropO adoptP newP wholeP cutP allOldL ex_skip ex_ret ex_exit ks_region ks_seq ks_cut ks_cond ks_block seqK_n seqK_e seqK_r regK_some condK_t condK_f blkK_n blkK_r blkK_e endK_n endK_r rr_false rr_true rd_free mo_nil mo_cons drK_some drK_none nxW_some nxW_none rw_nil rw_gen rw_gate ak_newnil ak_make ak_alloc ak_box ak_build ak_bslice ak_call ak_store ak_app iw_mm iw_eqn iw_idxp ef_callg cgK_some gv_e gv_own gv_i gv_sl gv_st gv_b gv_nil gvK_some gvO_some iw_callg ia_callg ak_callg hk_callg is_mv is_newnil is_pick is_bin is_eqb is_eqs is_un is_len is_lens is_chk is_fld is_fldv is_idxa is_idx is_load is_slice is_slices is_make is_alloc is_box is_build is_bslice is_app is_conv is_ext is_call is_calld is_callg is_mkfn is_mm is_idxp is_eqn is_store rt_nil rt_gen rt_gate nxT_some nxT_none ef_eqn_nil ef_eqn_sl ef_eqn_own ia_eqn ef_mmx ef_mmn ef_idxp nxD_some nxD_none ov_i ov_y ov_b ov_s ov_st ov_sl ov_own ov_oad ov_adr ov_nil ov_np ov_und ov_dead ov_tup oldN_some oldN_nil oldN_none so_none so_tup DV.noM so_i so_y so_b so_s so_st so_sl so_adr so_nil so_np so_und so_dead anyM_nil anyM_t anyM_c so_own so_oad rd_nil rd_gen rd_mv rd_gate iw_mv iw_newnil iw_pick iw_bin iw_eqb iw_eqs iw_un iw_len iw_lens iw_chk iw_fld iw_fldv iw_idxa iw_idx iw_load iw_store iw_slice iw_slices iw_make iw_alloc iw_box iw_build iw_bslice iw_app iw_b2i iw_i2b iw_i2i iw_same iw_b2s iw_s2b iw_ext iw_call nm_i nm_y nm_b nm_s nm_st nm_sl nm_own nm_oad nm_adr nm_nil nm_np nm_und nm_dead nm_tup rl_nil rl_gate rl_mv rl_gen opv_t opv_c nx_some nx_none gate_tt gate_tf gate_ft gate_ff gate_u fr_ap em_nil em_i em_y em_b em_s em_st em_sl em_own em_adr em_oad em_ref em_nl em_np em_und em_dead em_tup0 em_tup_i em_tup_b em_tup_s em_tup_sl em_tup_st em_tup_np em_tup_own em_tup_oad mm_i mm_y mm_b mm_s mm_st mm_sl mm_own mm_oad mm_adr mm_nil mm_np mm_und mm_dead ef_mv ef_newnil ef_pickt ef_pickf ef_bin ef_eqb ef_eqs ef_un ef_lens ef_len_sl ef_len_own ef_len_nil ef_chk_adr ef_chk_oad ef_fld_adr ef_fld_oad ef_fldv idxR_some ef_idxa_sl ef_idxa_own ef_idx ef_load_adr_st ef_load_adr_i ef_load_adr_y ef_load_adr_b ef_load_adr_s ef_load_adr_sl atN_nil atN_zero atN_succ ef_load_oad ef_store ef_slice ef_slices ef_make ef_alloc ef_box ef_build ef_bslice ef_app_own ef_app_nil ef_b2i ef_i2b ef_i2i ef_same ef_ext ret1 ret2_some calL_some ef_call retC_i retC_y retC_b retC_s retC_st retC_sl retC_np retC_fr retC_ref retC_tup rk_nil rk_i rk_y rk_b rk_s rk_st rk_sl rk_own rk_oad rk_nl ok_nil ok_i ok_y ok_b ok_s ok_st ok_sl ok_own ok_oad ok_nl lo_nil lo_i lo_y lo_b lo_s lo_st lo_sl lo_own lo_oad lo_nl pr_nil pr_i pr_y pr_b pr_s pr_st pr_sl pr_own pr_nl pr_oad nr_i nr_y nr_b nr_s nr_st nr_sl nr_fr nr_np nr_tup ng_i ng_b ng_s ng_fr ng_nil resV effP_eff binD bi_add bi_sub bi_mul bi_quo bi_rem bi_eql bi_neq bi_lss bi_leq bi_gtr bi_geq bi_shl bi_shr bi_and bi_or bi_xor bi_andNot binY binS unD look put putD LS.get LS.drop killE sweep lookO putO dropO enter leave giveBackL giveBack outs lendArgs lendArg newOuts takeIn takeInL lendL DV.lend adoptL DV.adopt elems apartKs part DV.cells unpart settle settleL over mkId szId fillP fillE tk_e2 tk_i tk_y lt_e2 lt_i lt_y lend_rep al_e2 al_is al_ys al_rep al_app lend_app adopt_app new_app lend_e2 lend_i lend_y adopt_e2 adopt_i adopt_y new_e2 new_i allNewL DV.allNew bounds sliceD sliceS em_w em_q em_r em_fn em_tup_w em_tup_q em_tup_r mm_w mm_q mm_r mm_fn ef_load_adr_w ef_load_adr_q ef_load_adr_r retC_w retC_q retC_r rk_w rk_q rk_r rk_fn ok_w ok_q ok_r ok_fn lo_w lo_q lo_r lo_fn pr_w pr_q pr_r pr_fn nr_w nr_q nr_r ng_w ng_q ng_r oa_w oa_q oa_r oa_fn al_w al_q al_r al_fn ov_w ov_q ov_r ov_fn so_w so_q so_r so_fn il_w il_q il_r il_fn oi_w oi_q oi_r oi_fn av_w av_q av_r av_fn nm_w nm_q nm_r nm_fn ef_i2r ef_r2s ef_b2s bs_some ys_nil ys_cons ys_map ef_mkfn ef_mkbd ef_idxp_adr ef_idxp_q ef_calld_nil ef_calld_adr ef_calld_bd DV.capB capsOk DV.cell List.all_cons List.all_nil rk_own_t lo_own_t lk_f lk_t pr_own_t mutB ak_calld hk_calld iw_calld iw_mkfn iw_i2r iw_r2s bw_and bw_or bw_xor bw_andNot bw_eql bw_neq sw_shl sw_shr sq_shl gEnv_nil rk_adr ok_adr lo_adr pr_adr oa_adr capL capArg DV.cap ak_mkfn hk_mkfn hk_mkbd ef_callm gf_ap ga_nil ga_cons tgv_own gk_e gk_giv gk_i gk_y gk_b gk_s gk_w gk_q gk_r gk_fn gk_st gk_sl gk_own gk_oad gk_adr gk_nl gk_np rk_giv ok_giv lo_giv pr_giv oa_giv iw_callm hk_callm ak_callm is_callm ia_callm tg_callm md_callm ef_i2q ef_q2i ef_q2q iw_i2q iw_q2i iw_q2q ia_i2q ia_q2i ia_q2q bq_and bq_add bq_shr sq_shr tgv_nil gk_ref rk_ref ok_ref lo_ref pr_ref oa_ref retC_fn nr_fn ef_load_adr_fn ks_close cls_oad
attribute [local congr] nxM_congr ifP_congr nxP_congr nxZ_congr nxR_congr nxT_congr nxG_congr nxF_congr ghK_congr gate_congr nx_congr nxD_congr runL_congr runD_congr eff_congr calL_congr ret2_congr seqK_congr regK_congr condK_congr endK_congr drK_congr nxW_congr
attribute [local simp ↓] nxM_some rm_nil rm_one rm_gen nxT_some rt_nil rt_gen rt_gate nxZ_some rz_nil rz_gen nxP_some rq_nil rq_gen rq_gate nxR_some ru_nil ru_gen ru_gate nxG_some rg_nil rg_gen rg_gate nxF_some rf_nil rf_gen rf_gate ks_promote ks_freeze frz_own ks_rename ks_cell ghK_some gate_tt gate_tf gate_ft gate_ff gate_u nx_some nxD_some rl_nil rl_mv rl_gen rl_gate rd_nil rd_mv rd_gen rd_gate rd_free rr_false rr_true drK_some drK_none nxW_some rw_nil rw_gen rw_gate ks_region ks_seq ks_cut ks_cond ks_block seqK_n seqK_e seqK_r regK_some condK_t condK_f blkK_n blkK_r endK_n endK_r calL_some ret2_some opv_t opv_c
section
theorem c_impl_isWithin (a b c:Int):call lf n_impl_isWithin [.i a,.i b,.i c]=some (.b (decide (b≤a∧a≤c)),[]):=by
 rw [call_k lf n_impl_isWithin _ (F:=F_impl_isWithin) rfl rfl]
 by_cases h:b≤a <;> simp [F_impl_isWithin,h]
theorem c_spec_l1In (a b c:Int):call lf n_spec_l1In [.i a,.i b,.i c]=some (.b (decide (b≤a∧a≤c)),[]):=by
 rw [call_k lf n_spec_l1In _ (F:=F_spec_l1In) rfl rfl]
 by_cases h:b≤a <;> simp [F_spec_l1In,h]
theorem c_impl_manyOk (a:Int):call lf n_impl_manyOk [.i a]=some (.b (nOk a),[]):=by
 rw [call_k lf n_impl_manyOk _ (F:=F_impl_manyOk) rfl rfl]
 simp [F_impl_manyOk,c_impl_isWithin,nOk]

theorem l_impl_TestsOk (n:Int) (hb:n < 1099511627776) (es:List DV) (rest:List T):∀ k:Int,0≤k→k+(rest.map e2).length=n→es.drop k.toNat=rest.map e2 →
  ex lf F_impl_TestsOk_W0 ⟨[(9,.sl 0 es),(10,.i n),(11,.i k)],[]⟩ =
  if rest.all tOk then some (.exit 0,⟨[(9,.sl 0 es),(10,.i n),(11,.i n)],[]⟩) else some (.ret,⟨[(2,.b false)],[]⟩):=by
 induction rest with
 | nil =>
  intro k h0 hn hd
  rw [w_impl_TestsOk_0]
  have hk:k=n:=by simpa using hn
  simp [F_impl_TestsOk_L0,hk]
 | cons t rest ih =>
  intro k h0 hn hd
  obtain ⟨q1,q2,q3,q4,q5,q6⟩:=stp h0 hn hb hd
  have ih:=ih (k+1) q4 q5 q6
  simp only [e2] at q2
  rw [w_impl_TestsOk_0]
  have xt:=tOk_def t
  cases x1:decide (1≤t.1∧t.1≤9) <;> cases x2:decide (1≤t.2∧t.2≤5) <;> rw [x1,x2] at xt <;> simp [F_impl_TestsOk_L0,q1,q2,q3,c_impl_isWithin,ih,xt,x1,x2,-List.all_eq_true]
theorem c_impl_TestsOk (ts:List T) (hb:(ts.length:Int) < 1099511627776):call lf n_impl_TestsOk [.sl 0 (ts.map e2)]=some (.b (tsOk ts),[]):=by
 rw [call_k lf n_impl_TestsOk _ (F:=F_impl_TestsOk) rfl rfl]
 have L:=l_impl_TestsOk ts.length hb (ts.map e2) ts 0 (by omega) (by simp) (by simp)
 cases h1:nOk ts.length <;> cases h2:ts.all tOk <;> simp [F_impl_TestsOk,c_impl_manyOk,L,h1,h2,tsOk]

theorem l_spec_TestsOk (n:Int) (hb:n < 1099511627776) (es:List DV) (hE:(es.length:Int)=n) (rest:List T):∀ k:Int,0≤k→k+(rest.map e2).length=n→es.drop k.toNat=rest.map e2 →
  ex lf F_spec_TestsOk_W0 ⟨[(0,.sl 0 es),(3,.i k)],[]⟩ =
  if rest.all tOk then some (.exit 0,⟨[(0,.sl 0 es),(3,.i n)],[]⟩) else some (.ret,⟨[(2,.b false)],[]⟩):=by
 induction rest with
 | nil =>
  intro k h0 hn hd
  rw [w_spec_TestsOk_0]
  have hk:k=n:=by simpa using hn
  simp [F_spec_TestsOk_L0,hk,hE]
 | cons t rest ih =>
  intro k h0 hn hd
  obtain ⟨q1,q2,q3,q4,q5,q6⟩:=stp h0 hn hb hd
  have ih:=ih (k+1) q4 q5 q6
  simp only [e2] at q2
  rw [w_spec_TestsOk_0]
  have xt:=tOk_def t
  cases x1:decide (1≤t.1∧t.1≤9) <;> cases x2:decide (1≤t.2∧t.2≤5) <;> rw [x1,x2] at xt <;> simp [F_spec_TestsOk_L0,q1,q2,q3,hE,c_spec_l1In,ih,xt,x1,x2,-List.all_eq_true]
theorem c_spec_TestsOk (ts:List T) (hb:(ts.length:Int) < 1099511627776):call lf n_spec_TestsOk [.sl 0 (ts.map e2)]=some (.b (tsOk ts),[]):=by
 rw [call_k lf n_spec_TestsOk _ (F:=F_spec_TestsOk) rfl rfl]
 have L:=l_spec_TestsOk ts.length hb (ts.map e2) (by simp) ts 0 (by omega) (by simp) (by simp)
 cases h2:ts.all tOk <;> simp [F_spec_TestsOk,c_spec_l1In,L,h2,tsOk,nOk]

theorem c_impl_statesOf (a:Int) (h0:0≤a) (h5:a≤40):call lf n_impl_statesOf [.i a]=some (.i (2 ^ a.toNat),[]):=by
 rw [call_k lf n_impl_statesOf _ (F:=F_impl_statesOf) rfl rfl]
 have h1:¬ a < 0:=by omega
 simp [F_impl_statesOf,h1,shl1 h0 h5]
theorem nOk_iff {a:Int}:nOk a=true↔1≤a∧a≤5:=by simp [nOk]
theorem c_impl_StateOk (a b:Int):call lf n_impl_StateOk [.i a,.i b]=some (.b (stOk a b),[]):=by
 rw [call_k lf n_impl_StateOk _ (F:=F_impl_StateOk) rfl rfl]
 cases h:nOk a with
 | true =>
  have h':=nOk_iff.1 h
  have p:=pow2_le (k:=a) (by omega) (by omega)
  have w:=wr_id (n:=2 ^ a.toNat - 1) (by omega) (by omega)
  have e:decide (0≤b∧b≤2 ^ a.toNat - 1)=decide (0≤b∧b < 2 ^ a.toNat):=decide_eq_decide.2 (by omega)
  simp [F_impl_StateOk,c_impl_manyOk,c_impl_isWithin,h,stOk,c_impl_statesOf a (by omega) (by omega),w,e]
 | false=>simp [F_impl_StateOk,c_impl_manyOk,c_impl_isWithin,h,stOk]
theorem c_impl_outcomeIn (s k:Int) (h0:0≤k) (h5:k≤40):call lf n_impl_outcomeIn [.i s,.i k]=some (.i (s / 2 ^ k.toNat % 2),[]):=by
 rw [call_k lf n_impl_outcomeIn _ (F:=F_impl_outcomeIn) rfl rfl]
 have h1:¬ k < 0:=by omega
 simp [F_impl_outcomeIn,h1,shr1 (a:=s) h0 (show k≤60 by omega),bit_and]

theorem l_impl_WeightOf (s:Int) (n:Int) (hb:n≤5) (es:List DV) (rest:List T) (hr:rest.all tOk=true):∀ (k a:Int),0≤k→k+(rest.map e2).length=n→es.drop k.toNat=rest.map e2→1≤a→a≤6 ^ k.toNat →
  ex lf F_impl_WeightOf_W0 ⟨[(1,.i s),(5,.i a),(18,.sl 0 es),(19,.i n),(20,.i k)],[]⟩=some (.exit 0,⟨[(1,.i s),(5,.i (a * wt rest (s / 2 ^ k.toNat))),(18,.sl 0 es),(19,.i n),(20,.i n)],[]⟩):=by
 induction rest with
 | nil =>
  intro k a h0 hn hd _ _
  rw [w_impl_WeightOf_0]
  have hk:k=n:=by simpa using hn
  simp [F_impl_WeightOf_L0,hk,wt]
 | cons t rest ih =>
  intro k a h0 hn hd ha1 ha2
  simp only [List.all_cons,Bool.and_eq_true] at hr
  obtain ⟨q1,q2,q3,q4,q5,q6⟩:=stp h0 hn (by omega) hd
  have tk:=tOk_iff.1 hr.1
  simp only [e2] at q2
  have oc:=c_impl_outcomeIn s k h0 (by omega)
  have w6:wr (6 - t.2)=6 - t.2:=wr_id (by omega) (by omega)
  rw [w_impl_WeightOf_0]
  by_cases hx:s / 2 ^ k.toNat % 2=1
  ·obtain ⟨m1,m2,m3⟩:=mulw (c:=t.2) ha1 ha2 (by omega) (by omega) h0 (by omega)
   have ih:=ih hr.2 (k+1) (a * t.2) q4 q5 q6 m2 m3
   rw [div_pow_succ s h0] at ih
   simp [F_impl_WeightOf_L0,q1,q2,q3,oc,hx,m1,ih,wt,Int.mul_assoc]
  ·obtain ⟨m1,m2,m3⟩:=mulw (c:=6 - t.2) ha1 ha2 (by omega) (by omega) h0 (by omega)
   have ih:=ih hr.2 (k+1) (a * (6 - t.2)) q4 q5 q6 m2 m3
   rw [div_pow_succ s h0] at ih
   have hx':((s / 2 ^ k.toNat % 2) == 1)=false:=beq_eq_false_iff_ne.2 hx
   simp [F_impl_WeightOf_L0,q1,q2,q3,oc,hx,hx',m1,w6,ih,wt,Int.mul_assoc]
theorem tsOk_iff {ts:List T}:tsOk ts=true↔(1≤(ts.length:Int)∧(ts.length:Int)≤5)∧ts.all tOk=true:=by
 rw [tsOk,Bool.and_eq_true,nOk_iff]
theorem c_impl_WeightOf (ts:List T) (s:Int) (hb:(ts.length:Int) < 1099511627776):call lf n_impl_WeightOf [.sl 0 (ts.map e2),.i s]=some (.i (wtOf ts s),[]):=by
 rw [call_k lf n_impl_WeightOf _ (F:=F_impl_WeightOf) rfl rfl]
 have C:=c_impl_TestsOk ts hb
 cases h1:tsOk ts with
 | false=>simp [F_impl_WeightOf,C,h1,wtOf]
 | true =>
  have h1':=tsOk_iff.1 h1
  cases h2:stOk ts.length s with
  | false=>simp [F_impl_WeightOf,C,c_impl_StateOk,h1,h2,wtOf]
  | true =>
   have L:=l_impl_WeightOf s ts.length (by omega) (ts.map e2) ts h1'.2 0 1 (by omega) (by simp) (by simp) (by omega) (by simp)
   simp at L
   simp [F_impl_WeightOf,C,c_impl_StateOk,h1,h2,wtOf,L]

theorem stOk_iff {n s:Int}:stOk n s=true↔(1≤n∧n≤5)∧0≤s∧s < 2 ^ n.toNat:=by
 rw [stOk,Bool.and_eq_true,nOk_iff,decide_eq_true_eq]
theorem ksOk_iff {m:Int} {ks:List Int}:ksOk m ks=true↔(1≤m∧m≤5)∧(ks.length:Int)=m∧ks.all kOk=true:=by
 rw [ksOk,Bool.and_eq_true,Bool.and_eq_true,nOk_iff,decide_eq_true_eq,and_assoc]
end
section
theorem p2 {ts:List T} (h:tsOk ts=true):1≤(2:Nat) ^ ts.length∧(2:Nat) ^ ts.length≤32∧((2 ^ ts.length:Nat):Int)=2 ^ ts.length:=by
 have h':=tsOk_iff.1 h
 have a:(2:Nat) ^ ts.length≤2 ^ 5:=Nat.pow_le_pow_right (by omega) (by omega)
 exact ⟨Nat.pow_pos (by omega),by omega,by simp⟩
theorem at_e2 {ts:List T} {i:Nat} (hi:i < ts.length):∃ t,ts[i]?=some t∧t∈ts∧atI (ts.map e2) i=some (.st [.i t.1,.i t.2])∧ts.take (i+1)=ts.take i++[t]:=by
 refine ⟨ts[i],List.getElem?_eq_getElem hi,List.getElem_mem hi,?_,List.take_succ_eq_append_getElem hi⟩
 simp [atI,hi,e2]
def ot (ts:List T) (i:Nat):List DV:=((ts.take i).map other).map e2
def cn (ts:List T) (i:Nat):List DV:=ot ts i++List.replicate (ts.length - i) (.st [.i 0,.i 0])
end
section
def ci (ts:List Int) (i:Nat):List DV:=(ts.take i).map .i++List.replicate (ts.length - i) (.i 0)
theorem ci_len {ts:List Int} {i:Nat} (hi:i≤ts.length):(ci ts i).length=ts.length:=by simp [ci]; omega
theorem ci_set {ts:List Int} {i:Nat} {t:Int} (hi:i < ts.length) (h:ts.take (i+1)=ts.take i++[t]):(ci ts i).set i (.i t)=ci ts (i+1):=by
 have:((ts.take i).map DV.i).length=i:=by simp; omega
 unfold ci
 rw [List.set_append_right _ _ (by omega),this,Nat.sub_self,h,show ts.length - i=(ts.length - (i+1))+1 by omega,List.replicate_succ,List.set_cons_zero,List.map_append,List.append_assoc]
 rfl
theorem ci_get {ts:List Int} {i:Nat} (hi:i < ts.length):atN (ci ts i) i=some (.i 0):=by
 show (ci ts i)[i]?=_
 have:((ts.take i).map DV.i).length=i:=by simp; omega
 unfold ci
 rw [List.getElem?_append_right (by omega),this,Nat.sub_self,List.getElem?_replicate]
 simp; omega
theorem ci_zero (ts:List Int):ci ts 0=List.replicate ts.length (.i 0):=by simp [ci]
theorem ci_all (ts:List Int):ci ts ts.length=ts.map .i:=by simp [ci]
theorem at_i {ks:List Int} {i:Nat} (hi:i < ks.length):∃ k,ks[i]?=some k∧k∈ks∧atI (ks.map .i) i=some (.i k)∧ks.take (i+1)=ks.take i++[k]:=by
 refine ⟨ks[i],List.getElem?_eq_getElem hi,List.getElem_mem hi,?_,List.take_succ_eq_append_getElem hi⟩
 simp [atI,hi]
theorem c_toIntS (ts:List Int) (hb:(ts.length:Int)≤1048576):call lf n_laws_toIntS [.sl 0 (ts.map .i)]=some (.fr 1 (ts.map .i),[]):=by
 rw [call_k lf n_laws_toIntS _ (F:=F_laws_toIntS) rfl rfl]
 have L:ex lf F_laws_toIntS_W0 ⟨[(0,.sl 0 (ts.map .i)),(3,.own 3592 ts.length 0 ts.length),(4,.i 0)],[(3592,ci ts 0)]⟩ =
   some (.exit 0,⟨[(0,.sl 0 (ts.map .i)),(3,.own 3592 ts.length 0 ts.length),(4,.i ts.length)],[(3592,ci ts ts.length)]⟩):=by
  refine loop_count ts.length (fun i=>⟨[(0,.sl 0 (ts.map .i)),(3,.own 3592 ts.length 0 ts.length),(4,.i i)],[(3592,ci ts i)]⟩) (fun i hi=>?_) ?_ (by simp)
  ·obtain ⟨t,q1,q2,q3,q4⟩:=at_i hi
   have w1:wr ((i:Int)+1)=(i:Int)+1:=wr_id (by omega) (by omega)
   have c1:=ci_len (ts:=ts) (i:=i) (by omega)
   have c2:=ci_get hi
   have c3:=ci_set hi q4
   simp [F_laws_toIntS_L0,hi,q3,w1,c1,c2,c3]
  ·simp [F_laws_toIntS_L0]
 have b1:(ts.length:Int)≤bound:=by unfold bound; omega
 rw [ci_zero,ci_all] at L
 simp [F_laws_toIntS,b1,L]
theorem c_eqIntS_self (aS:List Int) (ha:(aS.length:Int)≤1048576):call lf n_laws_eqIntS [.sl 0 (aS.map .i),.sl 0 (aS.map .i)]=some (.b true,[]):=by
 rw [call_k lf n_laws_eqIntS _ (F:=F_laws_eqIntS) rfl rfl]
 have L:ex lf F_laws_eqIntS_W0 ⟨[(0,.sl 0 (aS.map .i)),(1,.sl 0 (aS.map .i)),(5,.i 0)],[]⟩=some (.exit 0,⟨[(0,.sl 0 (aS.map .i)),(1,.sl 0 (aS.map .i)),(5,.i aS.length)],[]⟩):=by
  refine loop_count aS.length (fun i=>⟨[(0,.sl 0 (aS.map .i)),(1,.sl 0 (aS.map .i)),(5,.i i)],[]⟩) (fun i hi=>?_) ?_ (by simp)
  ·obtain ⟨t,q1,q2,q3,q4⟩:=at_i hi
   have w1:wr ((i:Int)+1)=(i:Int)+1:=wr_id (by omega) (by omega)
   simp [F_laws_eqIntS_L0,hi,q3,w1]
  ·simp [F_laws_eqIntS_L0]
 simp [F_laws_eqIntS,L]
end
section
theorem c_toTest (t:T):call lf n_laws_toTest [e2 t]=some (e2 t,[]):=by
 rw [call_k lf n_laws_toTest _ (F:=F_laws_toTest) rfl rfl]
 simp [F_laws_toTest,e2]
theorem c_szTestS (ts:List T) (n:Int) (h0:0≤n) (h1:n≤1048576) (hb:(ts.length:Int)≤9223372036854775807):call lf n_laws_szTestS [.sl 0 (ts.map e2),.i n]=some (.i (if n < ts.length then -1 else n - ts.length),[]):=by
 rw [call_k lf n_laws_szTestS _ (F:=F_laws_szTestS) rfl rfl]
 have w:wr (n - ts.length)=n - ts.length:=wr_id (by omega) (by omega)
 by_cases h:n < ts.length
 ·have h':n - ts.length < 0:=by omega
  simp [F_laws_szTestS,w,h,h']
 ·have h':¬ n - ts.length < 0:=by omega
  simp [F_laws_szTestS,w,h,h']
def cz (ts:List T) (i:Nat):List DV:=(ts.take i).map e2++List.replicate (ts.length - i) (.st [.i 0,.i 0])
theorem cz_len {ts:List T} {i:Nat} (hi:i≤ts.length):(cz ts i).length=ts.length:=by simp [cz]; omega
theorem cz_set {ts:List T} {i:Nat} {t:T} (hi:i < ts.length) (h:ts.take (i+1)=ts.take i++[t]):(cz ts i).set i (.st [.i t.1,.i t.2])=cz ts (i+1):=by
 have:((ts.take i).map e2).length=i:=by simp; omega
 unfold cz
 rw [List.set_append_right _ _ (by omega),this,Nat.sub_self,h,show ts.length - i=(ts.length - (i+1))+1 by omega,List.replicate_succ,List.set_cons_zero,List.map_append,List.append_assoc]
 rfl
theorem cz_get {ts:List T} {i:Nat} (hi:i < ts.length):atN (cz ts i) i=some (.st [.i 0,.i 0]):=by
 show (cz ts i)[i]?=_
 have:((ts.take i).map e2).length=i:=by simp; omega
 unfold cz
 rw [List.getElem?_append_right (by omega),this,Nat.sub_self,List.getElem?_replicate]
 simp; omega
theorem cz_zero (ts:List T):cz ts 0=List.replicate ts.length (.st [.i 0,.i 0]):=by simp [cz]
theorem cz_all (ts:List T):cz ts ts.length=ts.map e2:=by simp [cz]
theorem c_toTestS (ts:List T) (hb:(ts.length:Int)≤1048576):call lf n_laws_toTestS [.sl 0 (ts.map e2)]=some (.fr 2 (ts.map e2),[]):=by
 rw [call_k lf n_laws_toTestS _ (F:=F_laws_toTestS) rfl rfl]
 have L:ex lf F_laws_toTestS_W0 ⟨[(0,.sl 0 (ts.map e2)),(3,.own 3600 ts.length 0 ts.length),(4,.i 0)],[(3600,cz ts 0)]⟩ =
   some (.exit 0,⟨[(0,.sl 0 (ts.map e2)),(3,.own 3600 ts.length 0 ts.length),(4,.i ts.length)],[(3600,cz ts ts.length)]⟩):=by
  refine loop_count ts.length (fun i=>⟨[(0,.sl 0 (ts.map e2)),(3,.own 3600 ts.length 0 ts.length),(4,.i i)],[(3600,cz ts i)]⟩) (fun i hi=>?_) ?_ (by simp)
  ·obtain ⟨t,q1,q2,q3,q4⟩:=at_e2 hi
   have w1:wr ((i:Int)+1)=(i:Int)+1:=wr_id (by omega) (by omega)
   have c1:=cz_len (ts:=ts) (i:=i) (by omega)
   have c2:=cz_get hi
   have c3:=cz_set hi q4
   have C:=c_toTest t
   simp only [e2] at C
   simp [F_laws_toTestS_L0,hi,q3,w1,c1,c2,c3,C]
  ·simp [F_laws_toTestS_L0]
 have b1:(ts.length:Int)≤bound:=by unfold bound; omega
 rw [cz_zero,cz_all] at L
 simp [F_laws_toTestS,b1,L]
theorem c_eqTest (t u:T):call lf n_laws_eqTest [e2 t,e2 u]=some (.b (t.1 == u.1 && t.2 == u.2),[]):=by
 rw [call_k lf n_laws_eqTest _ (F:=F_laws_eqTest) rfl rfl]
 by_cases h1:t.1=u.1
 ·by_cases h2:t.2=u.2
  ·simp [F_laws_eqTest,e2,h1,h2]
  ·have h3:(t.2 != u.2)=true:=bne_iff_ne.2 h2
   have h4:(t.2 == u.2)=false:=beq_eq_false_iff_ne.2 h2
   simp [F_laws_eqTest,e2,h1,h3,h4]
 ·have h3:(t.1 != u.1)=true:=bne_iff_ne.2 h1
  have h4:(t.1 == u.1)=false:=beq_eq_false_iff_ne.2 h1
  simp [F_laws_eqTest,e2,h3,h4]
theorem c_eqTestS_self (aS:List T) (ha:(aS.length:Int)≤1048576):call lf n_laws_eqTestS [.sl 0 (aS.map e2),.sl 0 (aS.map e2)]=some (.b true,[]):=by
 rw [call_k lf n_laws_eqTestS _ (F:=F_laws_eqTestS) rfl rfl]
 have L:ex lf F_laws_eqTestS_W0 ⟨[(0,.sl 0 (aS.map e2)),(1,.sl 0 (aS.map e2)),(5,.i 0)],[]⟩=some (.exit 0,⟨[(0,.sl 0 (aS.map e2)),(1,.sl 0 (aS.map e2)),(5,.i aS.length)],[]⟩):=by
  refine loop_count aS.length (fun i=>⟨[(0,.sl 0 (aS.map e2)),(1,.sl 0 (aS.map e2)),(5,.i i)],[]⟩) (fun i hi=>?_) ?_ (by simp)
  ·obtain ⟨t,q1,q2,q3,q4⟩:=at_e2 hi
   have w1:wr ((i:Int)+1)=(i:Int)+1:=wr_id (by omega) (by omega)
   have C:=c_eqTest t t
   simp only [e2,beq_self_eq_true,Bool.and_self] at C
   simp [F_laws_eqTestS_L0,hi,q3,w1,C]
  ·simp [F_laws_eqTestS_L0]
 simp [F_laws_eqTestS,L]
end
section
theorem mid_at {A B:List DV} {i:Nat} (h:A.length=i) (x:DV):atN (A++x :: B) i=some x:=by
 show (A++x :: B)[i]?=_
 rw [List.getElem?_append_right (by omega),h]; simp
theorem mid_set {A B:List DV} {i:Nat} (h:A.length=i) (x y:DV):(A++x :: B).set i y=A++y :: B:=by
 rw [List.set_append_right _ _ (by omega),h]; simp
theorem split_at {es:List DV} {i:Nat} (hi:i < es.length):es.drop i=es[i] :: es.drop (i+1):=List.drop_eq_getElem_cons hi
def mk1 (k:Int) (n:Nat):List DV:=(List.range n).map fun (j:Nat)=>DV.i (k+(j:Int))
theorem mk1_len (k:Int) (n:Nat):(mk1 k n).length=n:=by simp [mk1]
theorem mk1_succ (k:Int) (n:Nat):mk1 k (n+1)=mk1 k n++[.i (k+n)]:=by simp [mk1,List.range_succ]
def mk2 (k:Int) (n:Nat):List DV:=(List.range n).map fun (j:Nat)=>DV.st [.i (k+2 * (j:Int)),.i (k+2 * (j:Int)+1)]
theorem mk2_len (k:Int) (n:Nat):(mk2 k n).length=n:=by simp [mk2]
theorem mk2_succ (k:Int) (n:Nat):mk2 k (n+1)=mk2 k n++[.st [.i (k+2 * n),.i (k+2 * n+1)]]:=by simp [mk2,List.range_succ]
theorem mk2_map (k:Int) (n:Nat):∃ u:List T,mk2 k n=u.map e2∧u.length=n:=⟨(List.range n).map fun (j:Nat)=>(k+2 * (j:Int),k+2 * (j:Int)+1),by simp [mk2,e2],by simp⟩
set_option maxHeartbeats 4000000 in
theorem c_markTestS (xs:List T) (k:Int) (k0:0≤k) (k1:k≤1000000000) (hl:xs.length≤1048576):call lf n_laws_markTestS [.fr 2 (xs.map e2),.i k]=some (.i (k+2 * xs.length),[.fr 2 (mk2 k xs.length)]):=by
 rw [call_k lf n_laws_markTestS _ (F:=F_laws_markTestS) rfl rfl]
 have L:=loop_count (lf:=lf) (L:=F_laws_markTestS_L0) xs.length (fun i=>⟨[(0,.own 23 xs.length 0 xs.length),(1,.i (k+2 * i)),(5,.i i)],[(23,mk2 k i++(xs.map e2).drop i)]⟩) (x:=.exit 0) (R:=⟨[(0,.own 23 xs.length 0 xs.length),(1,.i (k+2 * xs.length)),(5,.i xs.length)],[(23,mk2 k xs.length++(xs.map e2).drop xs.length)]⟩) (fun i hi=>by
  have w1:wr ((i:Int)+1)=(i:Int)+1:=wr_id (by omega) (by omega)
  have w2:wr (k+2 * i+1)=k+2 * i+1:=wr_id (by omega) (by omega)
  have w3:wr (k+2 * i+1+1)=k+2 * (i+1:Nat):=by rw [wr_id (by omega) (by omega)]; omega
  have hi':(i:Int) < xs.length:=by omega
  have e:=split_at (es:=xs.map e2) (i:=i) (by simpa using hi)
  rw [List.getElem_map] at e
  rw [mk2_succ,e]
  have hA:=mk2_len k i
  have lB:(List.drop (i+1) (xs.map e2)).length=xs.length - (i+1):=by simp
  generalize xs[i]=x at *
  generalize List.drop (i+1) (xs.map e2)=B at *
  generalize mk2 k i=A at *
  have q1:=mid_at (B:=B) hA
  have q2:=mid_set (B:=B) hA
  have q3:∀ x:DV,(A++x :: B).length=xs.length:=fun x=>by simp [hA,lB]; omega
  rw [show A++[DV.st [DV.i (k+2 * ↑i),DV.i (k+2 * ↑i+1)]]++B=A++DV.st [DV.i (k+2 * ↑i),DV.i (k+2 * ↑i+1)] :: B by simp]
  have q4:∀ a b:DV,1≤[a,b].length:=fun a b=>by simp
  have q5:∀ a b:DV,2≤[a,b].length:=fun a b=>by simp
  simp [F_laws_markTestS_L0,e2,hi,hi',w1,w2,w3,q1,q2,q3,q4,q5,-List.length_append,-List.length_cons]) (by
  have lm:=mk2_len k xs.length
  simp [F_laws_markTestS_L0,lm]) (by simp)
 have z:mk2 k 0++(xs.map e2).drop 0=xs.map e2:=by simp [mk2]
 rw [z] at L
 have zn:mk2 k xs.length++(xs.map e2).drop xs.length=mk2 k xs.length:=by simp
 rw [zn] at L
 have L':ex lf F_laws_markTestS_W0 ⟨[(0,.own 23 xs.length 0 xs.length),(1,.i k),(5,.i 0)],[(23,xs.map e2)]⟩=some (.exit 0,⟨[(0,.own 23 xs.length 0 xs.length),(1,.i (k+2 * xs.length)),(5,.i xs.length)],[(23,mk2 k xs.length)]⟩):=by
  have:=L
  simp only [Int.natCast_zero,Int.mul_zero,Int.add_zero] at this
  exact this
 have lm:=mk2_len k xs.length
 simp [F_laws_markTestS,L',lm]
end
section
def mkS (m p:Int) (t:T):Option Int :=
 if t.1=0 then (if 0≤t.2∧t.2 < m then some (p+1) else none)
 else if t.1=1 then (if t.2=0∧1≤p then some p else none)
 else if t.1=2∨t.1=3 then (if t.2=0∧2≤p then some (p - 1) else none)
 else none
def runM (m:Int):Int→List T→Option Int
 | p,[]=>some p
 | p,t :: r=>match mkS m p t with
  | some q=>runM m q r
  | none=>none
def tmOk (m:Int) (ts:List T):Bool:=nOk m && decide ((ts.length:Int)≤13) && runM m 0 ts == some 1
theorem c_impl_partsTaken (k:Int):call lf n_impl_partsTaken [.i k]=some (.i (if k=0 then 0 else if k=1 then 1 else 2),[]):=by
 rw [call_k lf n_impl_partsTaken _ (F:=F_impl_partsTaken) rfl rfl]
 by_cases h0:k=0
 ·simp [F_impl_partsTaken,h0]
 ·have h0':(k == 0)=false:=beq_eq_false_iff_ne.2 h0
  by_cases h1:k=1
  ·simp [F_impl_partsTaken,h1]
  ·have h1':(k == 1)=false:=beq_eq_false_iff_ne.2 h1
   simp [F_impl_partsTaken,h0,h1,h0',h1']
theorem tmOk_iff {m:Int} {ts:List T}:tmOk m ts=true↔(1≤m∧m≤5)∧(ts.length:Int)≤13∧runM m 0 ts=some 1:=by
 rw [tmOk,Bool.and_eq_true,Bool.and_eq_true,nOk_iff,decide_eq_true_eq,beq_iff_eq,and_assoc]
def letF (a:Int) (t:T):Int:=if t.1=0 then orI a (2 ^ t.2.toNat) else a
def lett (ts:List T):Int:=ts.foldl letF 0
def letOf (m:Int) (ts:List T):Int:=if tmOk m ts then lett ts else -1
end
section
inductive Tm where
 | tst (a:Nat)
 | neg (x:Tm)
 | and (x y:Tm)
 | or (x y:Tm)
def flt:Tm→List T
 | .tst a=>[(0,(a:Int))]
 | .neg x=>flt x++[(1,0)]
 | .and x y=>flt x++flt y++[(2,0)]
 | .or x y=>flt x++flt y++[(3,0)]
def tb (m:Int):Tm→Prop
 | .tst a=>(a:Int) < m
 | .neg x=>tb m x
 | .and x y=>tb m x∧tb m y
 | .or x y=>tb m x∧tb m y
def ev (s:Nat):Tm→Bool
 | .tst a=>s.testBit a
 | .neg x=>!ev s x
 | .and x y=>ev s x && ev s y
 | .or x y=>ev s x || ev s y
def taken (k:Int):Nat:=if k=0 then 0 else if k=1 then 1 else 2
def stepG {P:Type} (mk:T→List P→P) (st:List P) (t:T):List P:=st.take (st.length - taken t.1)++[mk t (st.drop (st.length - taken t.1))]
def valG {P:Type} (mk:T→List P→P):Tm→P
 | .tst a=>mk (0,(a:Int)) []
 | .neg x=>mk (1,0) [valG mk x]
 | .and x y=>mk (2,0) [valG mk x,valG mk y]
 | .or x y=>mk (3,0) [valG mk x,valG mk y]
theorem stepG_0 {P:Type} (mk:T→List P→P) (st:List P) (a:Int):stepG mk st (0,a)=st++[mk (0,a) []]:=by
 simp [stepG,taken]
theorem stepG_1 {P:Type} (mk:T→List P→P) (st:List P) (x:P) (a:Int):stepG mk (st++[x]) (1,a)=st++[mk (1,a) [x]]:=by
 simp [stepG,taken]
theorem stepG_2 {P:Type} (mk:T→List P→P) (st:List P) (x y:P) (k a:Int) (h:k=2∨k=3):stepG mk (st++[x,y]) (k,a)=st++[mk (k,a) [x,y]]:=by
 have e:taken k=2:=by unfold taken; rw [if_neg (by omega),if_neg (by omega)]
 simp [stepG,e]
theorem last1 {α:Type} {l:List α} (h:1≤l.length):∃ r x,l=r++[x]:=by
 have:=List.dropLast_concat_getLast (l:=l) (by intro e; rw [e] at h; simp at h)
 exact ⟨_,_,this.symm⟩
theorem last2 {α:Type} {l:List α} (h:2≤l.length):∃ r x y,l=r++[x,y]:=by
 obtain ⟨r,y,rfl⟩:=last1 (by omega:1≤l.length)
 obtain ⟨r',x,rfl⟩:=last1 (by simp at h; omega:1≤r.length)
 exact ⟨r',x,y,by simp⟩
theorem forest {m:Int}:∀ {ts:List T} {p q:Int},runM m p ts=some q→∀ F:List Tm,(F.length:Int)=p→(∀ x∈F,tb m x) →
  ∃ F':List Tm,(F'.length:Int)=q∧(∀ x∈F',tb m x)∧F'.flatMap flt=F.flatMap flt++ts∧∀ (P:Type) (mk:T→List P→P),ts.foldl (stepG mk) (F.map (valG mk))=F'.map (valG mk)
 | [],p,q,h,F,hl,hb=>by
  simp only [runM,Option.some.injEq] at h
  exact ⟨F,by omega,hb,by simp,fun P mk=>rfl⟩
 | t :: ts,p,q,h,F,hl,hb=>by
  simp only [runM] at h
  have go:∀ (G:List Tm),runM m (G.length:Int) ts=some q→(∀ x∈G,tb m x)→G.flatMap flt=F.flatMap flt++[t]→(∀ (P:Type) (mk:T→List P→P),stepG mk (F.map (valG mk)) t=G.map (valG mk)) →
    ∃ F':List Tm,(F'.length:Int)=q∧(∀ x∈F',tb m x)∧F'.flatMap flt=F.flatMap flt++(t :: ts)∧∀ (P:Type) (mk:T→List P→P),(t :: ts).foldl (stepG mk) (F.map (valG mk))=F'.map (valG mk):=by
   intro G h1 h2 h3 h4
   obtain ⟨F',q1,q2,q3,q4⟩:=forest h1 G rfl h2
   refine ⟨F',q1,q2,by rw [q3,h3]; simp,fun P mk=>?_⟩
   rw [List.foldl_cons,h4,q4]
  obtain ⟨k,a⟩:=t
  cases hm:mkS m p (k,a) with
  | none=>rw [hm] at h; cases h
  | some p1 =>
   rw [hm] at h
   simp only at h
   unfold mkS at hm
   simp only at hm
   split at hm
   ·rename_i hk
    subst hk
    split at hm
    ·rename_i ha
     injection hm with hm
     obtain ⟨n,rfl⟩:=Int.eq_ofNat_of_zero_le ha.1
     refine go (F++[.tst n]) (by rw [show (((F++[Tm.tst n]).length:Nat):Int)=p1 by simp; omega]; exact h) (fun x hx=>?_) (by simp [flt]) (fun P mk=>by rw [stepG_0]; simp [valG])
     rcases List.mem_append.1 hx with h1 | h1
     ·exact hb x h1
     ·simp only [List.mem_singleton] at h1; subst h1; exact ha.2
    ·cases hm
   ·split at hm
    ·rename_i _ hk
     subst hk
     split at hm
     ·rename_i ha
      injection hm with hm
      obtain ⟨r,x,rfl⟩:=last1 (l:=F) (by omega)
      have ha0:=ha.1
      subst ha0
      refine go (r++[.neg x]) (by rw [show (((r++[Tm.neg x]).length:Nat):Int)=p1 by simp at hl ⊢; omega]; exact h) (fun y hy=>?_) (by simp [flt]) (fun P mk=>by rw [List.map_append]; simp only [List.map_cons,List.map_nil]; rw [stepG_1]; simp [valG])
      rcases List.mem_append.1 hy with h1 | h1
      ·exact hb y (List.mem_append_left _ h1)
      ·simp only [List.mem_singleton] at h1; subst h1; exact hb x (by simp)
     ·cases hm
    ·split at hm
     ·rename_i _ _ hk
      split at hm
      ·rename_i ha
       injection hm with hm
       obtain ⟨r,x,y,rfl⟩:=last2 (l:=F) (by omega)
       have ha0:=ha.1
       subst ha0
       have hx:=hb x (by simp)
       have hy:=hb y (by simp)
       rcases hk with rfl | rfl
       ·refine go (r++[.and x y]) (by rw [show (((r++[Tm.and x y]).length:Nat):Int)=p1 by simp at hl ⊢; omega]; exact h) (fun z hz=>?_) (by simp [flt]) (fun P mk=>by rw [List.map_append]; simp only [List.map_cons,List.map_nil]; rw [stepG_2 _ _ _ _ _ _ (.inl rfl)]; simp [valG])
        rcases List.mem_append.1 hz with h1 | h1
        ·exact hb z (List.mem_append_left _ h1)
        ·simp only [List.mem_singleton] at h1; subst h1; exact ⟨hx,hy⟩
       ·refine go (r++[.or x y]) (by rw [show (((r++[Tm.or x y]).length:Nat):Int)=p1 by simp at hl ⊢; omega]; exact h) (fun z hz=>?_) (by simp [flt]) (fun P mk=>by rw [List.map_append]; simp only [List.map_cons,List.map_nil]; rw [stepG_2 _ _ _ _ _ _ (.inr rfl)]; simp [valG])
        rcases List.mem_append.1 hz with h1 | h1
        ·exact hb z (List.mem_append_left _ h1)
        ·simp only [List.mem_singleton] at h1; subst h1; exact ⟨hx,hy⟩
      ·cases hm
     ·cases hm
theorem tm_tree {m:Int} {ts:List T} (h:tmOk m ts=true):∃ x,tb m x∧flt x=ts∧∀ (P:Type) (mk:T→List P→P),ts.foldl (stepG mk) []=[valG mk x]:=by
 obtain ⟨_,_,h3⟩:=tmOk_iff.1 h
 obtain ⟨F,q1,q2,q3,q4⟩:=forest h3 [] rfl (by simp)
 match F,q1 with
 | [x],_=>exact ⟨x,q2 x (by simp),by simpa using q3,fun P mk=>by simpa using q4 P mk⟩

def yesW (a:Nat):BitVec 32:=match a with
 | 0=>2863311530#32
 | 1=>3435973836#32
 | 2=>4042322160#32
 | 3=>4278255360#32
 | _=>4294901760#32
def mkW (t:T) (ps:List (BitVec 32)):BitVec 32 :=
 if t.1=0 then yesW t.2.toNat else if t.1=1 then ~~~(ps.getD 0 0) else if t.1=2 then ps.getD 0 0 &&& ps.getD 1 0 else ps.getD 0 0 ||| ps.getD 1 0
theorem yes_bit:∀ (a:_root_.Fin 5) (s:_root_.Fin 32),(yesW a.val).getLsbD s.val=s.val.testBit a.val:=by decide +kernel
theorem val_bit {m:Int} (hm:m≤5):∀ {x:Tm},tb m x→∀ {s:Nat},s < 32→(valG mkW x).getLsbD s=ev s x
 | .tst a,h,s,hs=>by
  have ha:a < 5:=by have:(a:Int) < m:=h; omega
  have:=yes_bit ⟨a,ha⟩ ⟨s,hs⟩
  simpa [valG,mkW,ev] using this
 | .neg x,h,s,hs=>by
  have ih:=val_bit hm (x:=x) h hs
  have e:valG mkW (.neg x)= ~~~(valG mkW x):=by simp [valG,mkW]
  rw [e,BitVec.getLsbD_not,ih]
  simp [hs,ev]
 | .and x y,h,s,hs=>by
  have i1:=val_bit hm (x:=x) h.1 hs
  have i2:=val_bit hm (x:=y) h.2 hs
  simp [valG,mkW,ev,i1,i2]
 | .or x y,h,s,hs=>by
  have i1:=val_bit hm (x:=x) h.1 hs
  have i2:=val_bit hm (x:=y) h.2 hs
  simp [valG,mkW,ev,i1,i2]
def tsW (ts:List T):BitVec 32:=(ts.foldl (stepG mkW) []).headD 0
def tv (ts:List T) (s:Nat):Bool:=(tsW ts).getLsbD s
theorem tv_tree {m:Int} {ts:List T} (h:tmOk m ts=true):∃ x,tb m x∧flt x=ts∧ts.foldl (stepG mkW) []=[tsW ts]∧∀ s,s < 32→tv ts s=ev s x:=by
 obtain ⟨h1,_,_⟩:=tmOk_iff.1 h
 obtain ⟨x,b,f,g⟩:=tm_tree h
 have e:tsW ts=valG mkW x:=by unfold tsW; rw [g]; rfl
 exact ⟨x,b,f,by rw [g,e],fun s hs=>by unfold tv; rw [e]; exact val_bit h1.2 b hs⟩
theorem ev_congr {m:Int} {s s':Nat} (h:∀ a:Nat,(a:Int) < m→s.testBit a=s'.testBit a):∀ {x:Tm},tb m x→ev s x=ev s' x
 | .tst a,hb=>h a hb
 | .neg x,hb=>by simp only [ev,ev_congr h (x:=x) hb]
 | .and x y,hb=>by simp only [ev,ev_congr h (x:=x) hb.1,ev_congr h (x:=y) hb.2]
 | .or x y,hb=>by simp only [ev,ev_congr h (x:=x) hb.1,ev_congr h (x:=y) hb.2]
end
section
def hs (bs:List Nat) (p:Int):Int:=(bs.getD (p.tmod bs.length).toNat 0:Nat) * 131+(bs.getD ((p * 7+3).tmod bs.length).toNat 0:Nat) * 1117+p * 29+p.tdiv bs.length * 53
def pk (bs:List Nat) (p n:Int):Int:=if bs.length=0 then 0 else if p < bs.length then ((bs.getD p.toNat 0:Nat):Int).tmod n else (xorI (hs bs p) ((hs bs p).tdiv 64)).tmod n
theorem byte_lt {bs:List Nat} (hb:∀ y∈bs,y < 256) (i:Nat):bs.getD i 0 < 256:=by
 by_cases h:i < bs.length
 ·have:bs.getD i 0=bs[i]:=by simp [List.getD,h]
  rw [this]
  exact hb _ (List.getElem_mem h)
 ·have:bs.getD i 0=0:=by simp [List.getD,List.getElem?_eq_none (by omega:bs.length≤i)]
  omega
end
section
theorem cells_st (cs:List DV):(DV.st cs).cells=cs:=rfl
theorem cells_sl (p:Nat) (es:List DV):(DV.sl p es).cells=[DV.sl p es]:=rfl
theorem cells_i (n:Int):(DV.i n).cells=[DV.i n]:=rfl
theorem cells_y (n:Nat):(DV.y n).cells=[DV.y n]:=rfl
theorem cells_b (n:Bool):(DV.b n).cells=[DV.b n]:=rfl
theorem cells_s (n:List UInt8):(DV.s n).cells=[DV.s n]:=rfl
attribute [-simp] DV.cells
attribute [local simp] cells_st cells_sl cells_i cells_y cells_b cells_s
def row (t:List T):DV:=.sl 1 (t.map e2)
theorem flat_set (m:T):∀ {ps:List (List T)} {A:Nat} {t:List T},ps[A]?=some t→(ps.set A (t++[m])).flatten.length=ps.flatten.length+1
 | [],_,_,h=>by simp at h
 | x :: ps,0,t,h=>by simp at h; subst h; simp; omega
 | x :: ps,A+1,t,h=>by
  simp only [List.getElem?_cons_succ] at h
  have:=flat_set m h
  simp at this ⊢
  omega
theorem flat_len:∀ {ps:List (List T)} {A:Nat} {t:List T},ps[A]?=some t→t.length≤ps.flatten.length
 | [],_,_,h=>by simp at h
 | x :: ps,0,t,h=>by simp at h; subst h; simp
 | x :: ps,A+1,t,h=>by
  simp only [List.getElem?_cons_succ] at h
  have:=flat_len h
  simp only [List.flatten_cons,List.length_append]; omega
end
section
attribute [-simp] DV.cells
attribute [local simp] cells_st cells_sl cells_i cells_y cells_b cells_s
theorem cells_w (x:BitVec 32):(DV.w x).cells=[DV.w x]:=rfl
attribute [local simp] cells_w
theorem c_impl_statesOfPart (k a:Int) (ps:List (BitVec 32)) (h:(k=0∧0≤a∧a < 5)∨(k=1∧1≤ps.length)∨((k=2∨k=3)∧2≤ps.length)) :
  call lf n_impl_statesOfPart [.st [.i k,.i a],.sl 0 (ps.map .w)]=some (.w (mkW (k,a) ps),[]):=by
 rw [call_k lf n_impl_statesOfPart _ (F:=F_impl_statesOfPart) rfl rfl]
 rcases h with ⟨rfl,h0,h5⟩ | ⟨rfl,h1⟩ | ⟨hk,h2⟩
 ·have c5:a=0∨a=1∨a=2∨a=3∨a=4:=by omega
  rcases c5 with rfl | rfl | rfl | rfl | rfl <;> simp [F_impl_statesOfPart,gEnv_0,mkW,yesW]
 ·obtain ⟨x,xs,rfl⟩:∃ x xs,ps=x :: xs:=by cases ps with | nil=>simp at h1 | cons x xs=>exact ⟨x,xs,rfl⟩
  simp [F_impl_statesOfPart,gEnv_0,mkW,atI]
 ·obtain ⟨x,y,xs,rfl⟩:∃ x y xs,ps=x :: y :: xs:=by
   match ps,h2 with
   | x :: y :: xs,_=>exact ⟨x,y,xs,rfl⟩
  rcases hk with rfl | rfl <;> simp [F_impl_statesOfPart,gEnv_0,mkW,atI]
end
section
attribute [-simp] DV.cells
attribute [local simp] cells_st cells_sl cells_i cells_y cells_b cells_s cells_w
def stF (n k:Int) (es:List DV) (N:Nat) (g:List DV) (st:List (BitVec 32)):LS :=
 ⟨[(1,.fn n_impl_statesOfPart []),(5,.own 2568 N 0 st.length),(10,.sl 0 es),(11,.i n),(12,.i k)],[(2568,st.map .w++g)]⟩
set_option maxHeartbeats 4000000 in
theorem l_fold0 (n k:Int) (es:List DV) (N:Nat) (g:List DV) (st:List (BitVec 32)) (hN:N=st.length+g.length) (hl:st.length≤1000) (a:Int) (h0:0≤a) (h5:a < 5) (hk:k < n) (hat:atI es k=some (.st [.i 0,.i a])) (hw:wr (k+1)=k+1) :
  ∃ N' g',N'=(stepG mkW st (0,a)).length+g'.length∧ex lf F_impl_foldTerm_uint32_L0 (stF n k es N g st)=some (.normal,stF n (k+1) es N' g' (stepG mkW st (0,a))):=by
 have C:=c_impl_statesOfPart 0 a [] (.inl ⟨rfl,h0,h5⟩)
 have P:=c_impl_partsTaken 0
 have w1:wr (st.length:Int)=st.length:=wr_id (by omega) (by omega)
 have b1:st.length+1≤bound:=by unfold bound; omega
 rw [stepG_0]
 simp at C P
 cases g with
 | nil =>
  refine ⟨st.length+1,[],by simp,?_⟩
  have hN':N=st.length:=by simpa using hN
  subst hN'
  unfold stF
  simp [F_impl_foldTerm_uint32_L0,hk,hat,hw,C,P,w1,b1]
 | cons y g =>
  refine ⟨N,g,by simp at hN ⊢; omega,?_⟩
  have hL:(st.map DV.w++y :: g).length=N:=by rw [hN]; simp
  have t1:List.take st.length (st.map DV.w++y :: g)=st.map .w:=by rw [List.take_append_of_le_length (by simp),List.take_of_length_le (by simp)]
  have t2:List.drop (st.length+1) (st.map DV.w++y :: g)=g:=by rw [List.drop_append]; simp
  have n1:st.length < N:=by rw [hN]; simp
  have n2:st.length+1≤N:=by omega
  have n3:¬ st.length=N:=by omega
  have n4:st.length≤N:=by omega
  have t4:List.drop st.length (st.map DV.w)=[]:=List.drop_of_length_le (by simp)
  unfold stF
  generalize st.map DV.w++y :: g=L at *
  simp [F_impl_foldTerm_uint32_L0,hk,hat,hw,C,P,w1,b1,hL,t1,t2,t4,n1,n2,n3,n4]
set_option maxHeartbeats 4000000 in
theorem l_fold1 (n k:Int) (es:List DV) (N:Nat) (g:List DV) (st:List (BitVec 32)) (x:BitVec 32) (hN:N=(st++[x]).length+g.length) (hl:st.length≤1000) (a:Int) (hk:k < n) (hat:atI es k=some (.st [.i 1,.i a])) (hw:wr (k+1)=k+1) :
  ∃ N' g',N'=(stepG mkW (st++[x]) (1,a)).length+g'.length∧ex lf F_impl_foldTerm_uint32_L0 (stF n k es N g (st++[x]))=some (.normal,stF n (k+1) es N' g' (stepG mkW (st++[x]) (1,a))):=by
 have C:=c_impl_statesOfPart 1 a [x] (.inr (.inl ⟨rfl,by simp⟩))
 have P:=c_impl_partsTaken 1
 have w1:wr (st.length:Int)=st.length:=wr_id (by omega) (by omega)
 have b1:st.length+1≤bound:=by unfold bound; omega
 rw [stepG_1]
 simp at C P hN
 refine ⟨N,g,by simp; omega,?_⟩
 have hL:((st++[x]).map DV.w++g).length=N:=by rw [hN]; simp; omega
 have t1:List.take st.length ((st++[x]).map DV.w++g)=st.map .w:=by rw [List.map_append,List.append_assoc,List.take_append_of_le_length (by simp),List.take_of_length_le (by simp)]
 have t2:List.drop (st.length+1) ((st++[x]).map DV.w++g)=g:=by rw [List.drop_append]; simp
 have t3:List.drop st.length (List.take (st.length+1) ((st++[x]).map DV.w++g))=[.w x]:=by
  rw [List.take_append_of_le_length (by simp),List.take_of_length_le (by simp),List.map_append,List.drop_append]; simp
 have n1:st.length < N:=by omega
 have n2:st.length+1≤N:=by omega
 have n3:¬ st.length=N:=by omega
 have n4:st.length≤N:=by omega
 have l1:(st.length:Int)≤st.length+1:=by omega
 unfold stF
 generalize (st++[x]).map DV.w++g=L at *
 simp [F_impl_foldTerm_uint32_L0,hk,hat,hw,C,P,w1,b1,hL,t1,t2,t3,n1,n2,n3,n4,l1]
set_option maxHeartbeats 4000000 in
theorem l_fold2 (n k:Int) (es:List DV) (N:Nat) (g:List DV) (st:List (BitVec 32)) (x y:BitVec 32) (hN:N=(st++[x,y]).length+g.length) (hl:st.length≤1000) (c a:Int) (hc:c=2∨c=3) (hk:k < n) (hat:atI es k=some (.st [.i c,.i a])) (hw:wr (k+1)=k+1) :
  ∃ N' g',N'=(stepG mkW (st++[x,y]) (c,a)).length+g'.length∧ex lf F_impl_foldTerm_uint32_L0 (stF n k es N g (st++[x,y]))=some (.normal,stF n (k+1) es N' g' (stepG mkW (st++[x,y]) (c,a))):=by
 have C:=c_impl_statesOfPart c a [x,y] (.inr (.inr ⟨hc,by simp⟩))
 have P:=c_impl_partsTaken c
 rw [if_neg (by omega),if_neg (by omega)] at P
 have w1:wr (st.length:Int)=st.length:=wr_id (by omega) (by omega)
 have b1:st.length+1≤bound:=by unfold bound; omega
 rw [stepG_2 _ _ _ _ _ _ hc]
 simp at C hN
 refine ⟨N,.w y :: g,by simp; omega,?_⟩
 have hL:((st++[x,y]).map DV.w++g).length=N:=by rw [hN]; simp; omega
 have t1:List.take st.length ((st++[x,y]).map DV.w++g)=st.map .w:=by rw [List.map_append,List.append_assoc,List.take_append_of_le_length (by simp),List.take_of_length_le (by simp)]
 have t2:List.drop (st.length+1) ((st++[x,y]).map DV.w++g)=.w y :: g:=by
  rw [List.map_append,List.append_assoc,List.drop_append]; simp
 have t3:List.drop st.length (List.take (st.length+2) ((st++[x,y]).map DV.w++g))=[.w x,.w y]:=by
  rw [List.take_append_of_le_length (by simp),List.take_of_length_le (by simp),List.map_append,List.drop_append]; simp
 have n1:st.length < N:=by omega
 have n2:st.length+1≤N:=by omega
 have n3:¬ st.length=N:=by omega
 have n4:st.length≤N:=by omega
 have n5:st.length+2≤N:=by omega
 have l1:(st.length:Int)≤st.length+2:=by omega
 have tn:((st.length:Int)+2).toNat=st.length+2:=by omega
 unfold stF
 generalize (st++[x,y]).map DV.w++g=L at *
 simp [F_impl_foldTerm_uint32_L0,hk,hat,hw,C,P,w1,b1,hL,t1,t2,t3,n1,n2,n3,n4,n5,l1,tn]
theorem l_fold (m n:Int) (hm:m≤5) (hb:n < 1000000) (es:List DV):∀ (rest:List T) (k p q:Int) (st:List (BitVec 32)) (N:Nat) (g:List DV),N=st.length+g.length→0≤k→k+rest.length=n→es.drop k.toNat=rest.map e2→(st.length:Int)=p→runM m p rest=some q→st.length+rest.length≤1000 →
  ∃ N' g',N'=(rest.foldl (stepG mkW) st).length+g'.length∧ex lf F_impl_foldTerm_uint32_W0 (stF n k es N g st)=some (.exit 0,stF n n es N' g' (rest.foldl (stepG mkW) st))
 | [],k,p,q,st,N,g,hN,h0,hn,hd,hp,hr,hl=>by
  refine ⟨N,g,hN,?_⟩
  rw [w_impl_foldTerm_uint32_0]
  have hk:k=n:=by simpa using hn
  subst hk
  unfold stF
  simp [F_impl_foldTerm_uint32_L0]
 | t :: rest,k,p,q,st,N,g,hN,h0,hn,hd,hp,hr,hl=>by
  obtain ⟨s1,s2,s3,s4,s5,s6⟩:=stp (es:=es) (xs:=rest.map e2) (x:=e2 t) (k:=k) (n:=n) h0 (by simpa using hn) (by omega) (by simpa using hd)
  simp only [List.length_cons] at hl
  have hmk:=hr
  simp only [runM] at hr
  cases hm':mkS m p t with
  | none=>rw [hm'] at hr; cases hr
  | some p1 =>
   rw [hm'] at hr
   simp only at hr
   obtain ⟨c,a⟩:=t
   simp only [e2] at s2
   have go:(∃ N1 g1,N1=(stepG mkW st (c,a)).length+g1.length∧ex lf F_impl_foldTerm_uint32_L0 (stF n k es N g st)=some (.normal,stF n (k+1) es N1 g1 (stepG mkW st (c,a))))→((stepG mkW st (c,a)).length:Int)=p1→(stepG mkW st (c,a)).length≤st.length+1 →
     ∃ N' g',N'=(((c,a) :: rest).foldl (stepG mkW) st).length+g'.length∧ex lf F_impl_foldTerm_uint32_W0 (stF n k es N g st)=some (.exit 0,stF n n es N' g' (((c,a) :: rest).foldl (stepG mkW) st)):=by
    rintro ⟨N1,g1,hN1,h1⟩ h2 h3
    obtain ⟨N',g',q1,q2⟩:=l_fold m n hm hb es rest (k+1) p1 q (stepG mkW st (c,a)) N1 g1 hN1 s4 (by simpa using s5) s6 h2 hr (by omega)
    refine ⟨N',g',q1,?_⟩
    rw [w_impl_foldTerm_uint32_0,h1]
    exact q2
   unfold mkS at hm'
   simp only at hm'
   split at hm'
   ·rename_i hc
    subst hc
    split at hm'
    ·rename_i ha
     injection hm' with hm'
     exact go (l_fold0 n k es N g st hN (by omega) a ha.1 (by omega) s1 s2 s3) (by rw [stepG_0]; simp; omega) (by rw [stepG_0]; simp)
    ·cases hm'
   ·split at hm'
    ·rename_i _ hc
     subst hc
     split at hm'
     ·rename_i ha
      injection hm' with hm'
      obtain ⟨r,x,rfl⟩:=last1 (l:=st) (by omega)
      have hl':=hl
      simp only [List.length_append,List.length_singleton] at hl hp
      exact go (l_fold1 n k es N g r x hN (by omega) a s1 s2 s3) (by rw [stepG_1]; simp; omega) (by rw [stepG_1]; simp)
     ·cases hm'
    ·split at hm'
     ·rename_i _ _ hc
      split at hm'
      ·rename_i ha
       injection hm' with hm'
       obtain ⟨r,x,y,rfl⟩:=last2 (l:=st) (by omega)
       simp only [List.length_append,List.length_cons,List.length_nil] at hl hp
       exact go (l_fold2 n k es N g r x y hN (by omega) c a hc s1 s2 s3) (by rw [stepG_2 _ _ _ _ _ _ hc]; simp; omega) (by rw [stepG_2 _ _ _ _ _ _ hc]; simp)
      ·cases hm'
     ·cases hm'
theorem c_impl_trueStates {m:Int} {ts:List T} (h:tmOk m ts=true):call lf n_impl_trueStates [.sl 0 (ts.map e2)]=some (.w (tsW ts),[]):=by
 obtain ⟨h1,h2,h3⟩:=tmOk_iff.1 h
 obtain ⟨x,_,_,hf,_⟩:=tv_tree h
 obtain ⟨N',g',hN',L⟩:=l_fold m ts.length h1.2 (by omega) (ts.map e2) ts 0 0 1 [] 0 [] rfl (Int.le_refl _) (by simp) (by simp) rfl h3 (by simp; omega)
 rw [hf] at L hN'
 have C:call lf n_impl_foldTerm_uint32 [.sl 0 (ts.map e2),.fn n_impl_statesOfPart []]=some (.w (tsW ts),[]):=by
  rw [call_k lf n_impl_foldTerm_uint32 _ (F:=F_impl_foldTerm_uint32) rfl rfl]
  unfold stF at L
  simp at L hN'
  have hL:g'.length+1=N':=by omega
  have n1:1≤N':=by omega
  simp [F_impl_foldTerm_uint32,L,hL,n1]
 rw [call_k lf n_impl_trueStates _ (F:=F_impl_trueStates) rfl rfl]
 simp [F_impl_trueStates,C]
end
section
attribute [-simp] DV.cells
attribute [local simp] cells_st cells_sl cells_i cells_y cells_b cells_s cells_w
attribute [-simp] sliceD
def bI (b:Bool):Int:=if b then 1 else 0
end
section
attribute [-simp] DV.cells sliceD
attribute [local simp] cells_st cells_sl cells_i cells_y cells_b cells_s cells_w
def tabN (f:Nat→Bool):Nat→Nat
 | 0=>0
 | k+1=>tabN f k ||| (if f k then 2 ^ k else 0)
theorem tabN_lt (f:Nat→Bool):∀ k,tabN f k < 2 ^ k
 | 0=>by simp [tabN]
 | k+1=>by
  simp only [tabN]
  have h:=tabN_lt f k
  refine Nat.or_lt_two_pow ?_ ?_
  ·rw [Nat.pow_succ]; omega
  ·split
   ·rw [Nat.pow_succ]; have:=Nat.pow_pos (n:=k) (show 0 < 2 by omega); omega
   ·exact Nat.pow_pos (by omega)
theorem tabN_bit (f:Nat→Bool) (s:Nat):∀ k,(tabN f k).testBit s=(decide (s < k) && f s)
 | 0=>by simp [tabN]
 | k+1=>by
  simp only [tabN,Nat.testBit_or,tabN_bit f s k]
  by_cases h:s=k
  ·subst h
   cases f s <;> simp
  ·have e:(if f k then 2 ^ k else 0).testBit s=false:=by
    split
    ·rw [Nat.testBit_two_pow]; simp; omega
    ·simp
   rw [e]
   by_cases h1:s < k
   ·simp [h1,show s < k+1 by omega]
   ·simp [h1,show ¬ s < k+1 by omega]
theorem orI_nat {a b:Nat} (ha:a < 2 ^ 62) (hb:b < 2 ^ 62):orI (a:Int) (b:Int)=((a ||| b:Nat):Int):=by
 have hab:a ||| b < 2 ^ 62:=Nat.or_lt_two_pow ha hb
 unfold orI
 have e:(BitVec.ofInt 64 (a:Int) ||| BitVec.ofInt 64 (b:Int)).toNat=a ||| b:=by
  rw [BitVec.toNat_or,BitVec.ofInt_natCast,BitVec.ofInt_natCast,BitVec.toNat_ofNat,BitVec.toNat_ofNat,Nat.mod_eq_of_lt (by omega),Nat.mod_eq_of_lt (by omega)]
 rw [e]
 exact wr_id (by omega) (by omega)
theorem bit_bI {a s:Nat} (hs:s≤60):(shrI (a:Int) (s:Int)).tmod 2=bI (a.testBit s):=by
 rw [shr1 (by omega) (by omega),tmod2 (Int.ediv_nonneg (by omega) (Int.le_of_lt (Int.pow_pos (by omega))))]
 unfold bI
 rw [Nat.testBit_eq_decide_div_mod_eq,Int.toNat_natCast]
 have:(a:Int) / 2 ^ s % 2=((a / 2 ^ s % 2:Nat):Int):=by simp
 rw [this]
 by_cases h:a / 2 ^ s % 2=1
 ·simp [h]
 ·have:a / 2 ^ s % 2=0:=by omega
  simp [this]
theorem pow5 {m:Int} (h1:1≤m) (h5:m≤5):2≤2 ^ m.toNat∧2 ^ m.toNat≤32∧((2 ^ m.toNat:Nat):Int)=2 ^ m.toNat:=by
 have c:m=1∨m=2∨m=3∨m=4∨m=5:=by omega
 rcases c with rfl | rfl | rfl | rfl | rfl <;> decide
end
section
attribute [-simp] DV.cells sliceD
attribute [local simp] cells_st cells_sl cells_i cells_y cells_b cells_s cells_w
def fo (f g:Nat→Bool) (N:Nat):Int:=if allTo (fun s=>!g s || f s) N then 1 else if allTo (fun s=>!g s || !f s) N then 0 else -1
theorem fo_1 {f g:Nat→Bool} {N:Nat}:fo f g N=1↔∀ s,s < N→g s=true→f s=true:=by
 unfold fo
 constructor
 ·intro h
  split at h
  ·rename_i ha
   intro s hs hg
   have:=allTo_iff.1 ha s hs
   simpa [hg] using this
  ·split at h <;> cases h
 ·intro h
  rw [if_pos (allTo_iff.2 fun s hs=>by
   cases hg:g s with
   | false=>rfl
   | true=>simp [h s hs hg])]
theorem fo_0 {f g:Nat→Bool} {N:Nat} (hne:∃ s,s < N∧g s=true):fo f g N=0↔∀ s,s < N→g s=true→f s=false:=by
 obtain ⟨s0,h0,g0⟩:=hne
 unfold fo
 constructor
 ·intro h
  split at h
  ·cases h
  ·split at h
   ·rename_i ha
    intro s hs hg
    have:=allTo_iff.1 ha s hs
    simpa [hg] using this
   ·cases h
 ·intro h
  rw [if_neg,if_pos (allTo_iff.2 fun s hs=>by
   cases hg:g s with
   | false=>rfl
   | true=>simp [h s hs hg])]
  intro ha
  have:=allTo_iff.1 ha s0 h0
  simp [g0,h s0 h0 g0] at this
theorem fo_or (f g:Nat→Bool) (N:Nat):fo f g N=1∨fo f g N=0∨fo f g N=-1:=by
 unfold fo
 split
 ·simp
 ·split <;> simp
theorem fo_b {f g:Nat→Bool} {N:Nat} (hne:∃ s,s < N∧g s=true) (b:Bool):fo f g N=bI b↔∀ s,s < N→g s=true→f s=b:=by
 cases b with
 | true=>exact fo_1
 | false=>exact fo_0 hne
def agB (ks:List Int) (s:Nat):Bool:=ag ks (s:Int)
theorem agB_cons (k:Int) (r:List Int) (s:Nat):agB (k :: r) s=((k == -1 || k == bI (s.testBit 0)) && agB r (s / 2)):=by
 unfold agB
 simp only [ag]
 have e1:(s:Int) % 2=bI (s.testBit 0):=by
  unfold bI
  rw [Nat.testBit_zero]
  by_cases h:s % 2=1
  ·simp [h]; omega
  ·simp [h]; omega
 have e2:(s:Int) / 2=((s / 2:Nat):Int):=by omega
 rw [e1,e2]
theorem agB_some:∀ {ks:List Int},ks.all kOk=true→∃ s,s < 2 ^ ks.length∧agB ks s=true
 | [],_=>⟨0,by simp,rfl⟩
 | k :: r,h=>by
  simp only [List.all_cons,Bool.and_eq_true] at h
  obtain ⟨s,h1,h2⟩:=agB_some h.2
  have hk:-1≤k∧k≤1:=by simpa [kOk] using h.1
  have c:k=-1∨k=0∨k=1:=by omega
  have key:∀ b:Bool,k=-1∨k=bI b→∃ s,s < 2 ^ (k :: r).length∧agB (k :: r) s=true:=by
   intro b hb
   refine ⟨2 * s+(if b then 1 else 0),?_,?_⟩
   ·rw [List.length_cons,Nat.pow_succ]; cases b <;> simp <;> omega
   ·rw [agB_cons]
    have e1:(2 * s+(if b then 1 else 0)) / 2=s:=by cases b <;> simp <;> omega
    have e2:(2 * s+(if b then 1 else 0)).testBit 0=b:=by rw [Nat.testBit_zero]; cases b <;> simp <;> omega
    rw [e1,e2,h2]
    rcases hb with rfl | rfl <;> simp
  rcases c with rfl | rfl | rfl
  ·exact key true (.inl rfl)
  ·exact key false (.inr rfl)
  ·exact key true (.inr rfl)
end
section
attribute [-simp] DV.cells sliceD
attribute [local simp] cells_st cells_sl cells_i cells_y cells_b cells_s cells_w
def foT (m:Int) (ts:List T) (ks:List Int):Int:=fo (tv ts) (agB ks) (2 ^ m.toNat)
theorem ks_some {m:Int} {ks:List Int} (h:ksOk m ks=true):∃ s,s < 2 ^ m.toNat∧agB ks s=true:=by
 obtain ⟨h1,h2,h3⟩:=ksOk_iff.1 h
 obtain ⟨s,q1,q2⟩:=agB_some h3
 exact ⟨s,by rw [show m.toNat=ks.length by omega]; exact q1,q2⟩
def told (m:Nat) (st so:Nat):List Int:=(List.range m).map fun k=>if so.testBit k then bI (st.testBit k) else -1
theorem bI_eq1 (b:Bool):(bI b == 1)=b:=by cases b <;> rfl
def prf (m:Int) (ts:List T) (st so:Nat):Bool:=foT m ts (told m.toNat st so) != -1
end
section
attribute [-simp] DV.cells sliceD
attribute [local simp] cells_st cells_sl cells_i cells_y cells_b cells_s cells_w
def agW:List Int→Nat→BitVec 32→BitVec 32
 | [],_,w=>w
 | k :: r,i,w=>agW r (i+1) (if k=0 then w &&& ~~~(yesW i) else if k=1 then w &&& yesW i else w)
theorem agW_bit:∀ {ks:List Int} {i:Nat} {w:BitVec 32} {s:Nat},ks.all kOk=true→i+ks.length≤5→s < 32→(agW ks i w).getLsbD s=(w.getLsbD s && agB ks (s / 2 ^ i))
 | [],i,w,s,_,_,_=>by simp [agW,agB,ag]
 | k :: r,i,w,s,h,hi,hs=>by
  simp only [List.all_cons,Bool.and_eq_true] at h
  simp only [List.length_cons] at hi
  have hk:-1≤k∧k≤1:=by simpa [kOk] using h.1
  simp only [agW]
  rw [agW_bit h.2 (by omega) hs,agB_cons]
  have e1:s / 2 ^ (i+1)=s / 2 ^ i / 2:=by rw [Nat.pow_succ,Nat.div_div_eq_div_mul]
  have e2:(s / 2 ^ i).testBit 0=s.testBit i:=by rw [Nat.testBit_div_two_pow]; simp
  have y:=yes_bit ⟨i,by omega⟩ ⟨s,hs⟩
  simp only at y
  rw [e1,e2]
  have c:k=-1∨k=0∨k=1:=by omega
  rcases c with rfl | rfl | rfl
  ·simp
  ·rw [if_pos rfl,BitVec.getLsbD_and,BitVec.getLsbD_not,y]
   cases w.getLsbD s <;> cases s.testBit i <;> simp [bI,hs]
  ·rw [if_neg (by omega),if_pos rfl,BitVec.getLsbD_and,y]
   cases w.getLsbD s <;> cases s.testBit i <;> simp [bI]
theorem yes_at {i:Nat} (h:i < 5):([DV.w 2863311530#32,DV.w 3435973836#32,DV.w 4042322160#32,DV.w 4278255360#32,DV.w 4294901760#32])[i]?=some (.w (yesW i)):=by
 have c:i=0∨i=1∨i=2∨i=3∨i=4:=by omega
 rcases c with rfl | rfl | rfl | rfl | rfl <;> rfl
def syI (k:Nat) (b:Int):BitVec 32:=if b=1 then yesW k else ~~~ yesW k
theorem c_impl_statesSaying {k:Nat} (hk:k < 5) (b:Int):call lf n_impl_statesSaying [.i k,.i b]=some (.w (syI k b),[]):=by
 have y:=yes_at hk
 have k5:(k:Int) < 5:=by omega
 rw [call_k lf n_impl_statesSaying _ (F:=F_impl_statesSaying) rfl rfl]
 unfold syI
 by_cases h:b=1
 ·have e:(b == 1)=true:=by simpa using h
  simp [F_impl_statesSaying,gEnv_0,y,k5,e,h]
 ·have e:(b == 1)=false:=by simpa using h
  simp [F_impl_statesSaying,gEnv_0,y,k5,e,h]
set_option maxHeartbeats 4000000 in
theorem ones_bit {s:Nat} (hs:s < 32):(4294967295#32).getLsbD s=true:=by
 have:∀ s:_root_.Fin 32,(4294967295#32).getLsbD s.val=true:=by decide +kernel
 exact this ⟨s,hs⟩
theorem agB_mod:∀ {ks:List Int} (s:Nat),agB ks (s % 2 ^ ks.length)=agB ks s
 | [],s=>rfl
 | k :: r,s=>by
  rw [agB_cons,agB_cons,List.length_cons]
  have e1:(s % 2 ^ (r.length+1)).testBit 0=s.testBit 0:=by rw [Nat.testBit_mod_two_pow]; simp
  have e2:s % 2 ^ (r.length+1) / 2=(s / 2) % 2 ^ r.length:=by rw [Nat.pow_succ,Nat.mul_comm,Nat.mod_mul_right_div_self]
  rw [e1,e2,agB_mod (ks:=r) (s / 2)]
theorem tv_mod {m:Int} {ts:List T} (h:tmOk m ts=true) {s:Nat} (hs:s < 32):tv ts (s % 2 ^ m.toNat)=tv ts s:=by
 obtain ⟨h1,_,_⟩:=tmOk_iff.1 h
 obtain ⟨x,hb,_,_,htv⟩:=tv_tree h
 have hle:s % 2 ^ m.toNat < 32:=Nat.lt_of_le_of_lt (Nat.mod_le _ _) hs
 rw [htv _ hs,htv _ hle]
 refine ev_congr (m:=m) (fun a ha=>?_) hb
 rw [Nat.testBit_mod_two_pow]
 have:a < m.toNat:=by omega
 simp [this]
theorem and_eq_iff (A W:BitVec 32):(W &&& A=A)↔∀ s,s < 32→A.getLsbD s=true→W.getLsbD s=true:=by
 constructor
 ·intro h s hs ha
  have:=congrArg (fun v=>BitVec.getLsbD v s) h
  simp only [BitVec.getLsbD_and,ha,Bool.and_true] at this
  exact this
 ·intro h
  apply BitVec.eq_of_getLsbD_eq
  intro s hs
  rw [BitVec.getLsbD_and]
  cases ha:A.getLsbD s with
  | false=>simp
  | true=>simp [h s hs ha]
theorem and_zero_iff (A W:BitVec 32):(W &&& A=0#32)↔∀ s,s < 32→A.getLsbD s=true→W.getLsbD s=false:=by
 constructor
 ·intro h s hs ha
  have:=congrArg (fun v=>BitVec.getLsbD v s) h
  simp only [BitVec.getLsbD_and,ha,Bool.and_true,BitVec.getLsbD_zero] at this
  exact this
 ·intro h
  apply BitVec.eq_of_getLsbD_eq
  intro s hs
  rw [BitVec.getLsbD_and,BitVec.getLsbD_zero]
  cases ha:A.getLsbD s with
  | false=>simp
  | true=>simp [h s hs ha]
theorem ag_bits {m:Int} {ts:List T} {ks:List Int} (h1:tmOk m ts=true) (h2:ksOk m ks=true) (b:Bool) :
  (∀ s,s < 32→(agW ks 0 (4294967295#32)).getLsbD s=true→(tsW ts).getLsbD s=b)↔foT m ts ks=bI b:=by
 obtain ⟨h3,_,_⟩:=tmOk_iff.1 h1
 obtain ⟨_,k2,k3⟩:=ksOk_iff.1 h2
 obtain ⟨p1,p2,p3⟩:=pow5 h3.1 h3.2
 have hl:m.toNat=ks.length:=by omega
 have key:∀ s,s < 32→(agW ks 0 (4294967295#32)).getLsbD s=agB ks s:=fun s hs=>by
  rw [agW_bit k3 (by omega) hs,ones_bit hs]; simp
 unfold foT
 rw [fo_b (ks_some h2)]
 constructor
 ·intro h s hs hg
  exact h s (by omega) (by rw [key s (by omega)]; exact hg)
 ·intro h s hs hg
  rw [key s hs,← agB_mod,← hl] at hg
  have:=h (s % 2 ^ m.toNat) (Nat.mod_lt _ (by omega)) hg
  rw [tv_mod h1 hs] at this
  exact this
def vaW (v w:BitVec 32):Int:=if v &&& w == w then 1 else if v &&& w == 0#32 then 0 else -1
theorem c_impl_valueAmong (v w:BitVec 32):call lf n_impl_valueAmong [.w v,.w w]=some (.i (vaW v w),[]):=by
 rw [call_k lf n_impl_valueAmong _ (F:=F_impl_valueAmong) rfl rfl]
 unfold vaW
 cases h1:(v &&& w == w) with
 | true=>simp [F_impl_valueAmong,h1]
 | false =>
  cases h2:(v &&& w == 0#32) with
  | true=>simp [F_impl_valueAmong,h1,h2]
  | false=>simp [F_impl_valueAmong,h1,h2]
theorem vaW_foT {m:Int} {ts:List T} {ks:List Int} (h1:tmOk m ts=true) (h2:ksOk m ks=true):vaW (tsW ts) (agW ks 0 (4294967295#32))=foT m ts ks:=by
 have a1:=ag_bits h1 h2 true
 have a0:=ag_bits h1 h2 false
 rw [← and_eq_iff] at a1
 rw [← and_zero_iff] at a0
 unfold vaW
 generalize agW ks 0 (4294967295#32)=A at *
 rcases fo_or (tv ts) (agB ks) (2 ^ m.toNat) with h | h | h
 ·have e:foT m ts ks=1:=h
  rw [if_pos (by rw [a1.2 e]; exact beq_self_eq_true _),e]
 ·have e:foT m ts ks=0:=h
  have q:=a0.2 e
  rw [if_neg,if_pos (by rw [q]; exact beq_self_eq_true _),e]
  intro hq
  have:=a1.1 (by simpa using hq)
  rw [e] at this; cases this
 ·have e:foT m ts ks=-1:=h
  rw [if_neg,if_neg,e]
  ·intro hq
   have:=a0.1 (by simpa using hq)
   rw [e] at this; cases this
  ·intro hq
   have:=a1.1 (by simpa using hq)
   rw [e] at this; cases this
end
section
attribute [-simp] DV.cells sliceD
attribute [local simp] cells_st cells_sl cells_i cells_y cells_b cells_s cells_w
theorem div_bI (a s:Nat):(a:Int) / 2 ^ s % 2=bI (a.testBit s):=by
 unfold bI
 rw [Nat.testBit_eq_decide_div_mod_eq]
 have:(a:Int) / 2 ^ s % 2=((a / 2 ^ s % 2:Nat):Int):=by simp
 rw [this]
 by_cases h:a / 2 ^ s % 2=1
 ·simp [h]
 ·have:a / 2 ^ s % 2=0:=by omega
  simp [this]
theorem c_impl_hasTest (so k:Nat) (hk:k≤40):call lf n_impl_hasTest [.i so,.i k]=some (.b (so.testBit k),[]):=by
 rw [call_k lf n_impl_hasTest _ (F:=F_impl_hasTest) rfl rfl]
 have ni:¬ (k:Int) < 0:=by omega
 have e:andI (shrI (so:Int) (k:Int)) 1=bI (so.testBit k):=by
  rw [bit_and,shr1 (by omega) (by omega),Int.toNat_natCast,div_bI]
 simp [F_impl_hasTest,ni,e,bI_eq1]
end
section
attribute [-simp] DV.cells
attribute [local simp] cells_st cells_sl cells_i cells_y cells_b cells_s
theorem or_lt {a b m:Int} (h1:1≤m) (h5:m≤5) (a0:0≤a) (a1:a < 2 ^ m.toNat) (b0:0≤b) (b1:b < 2 ^ m.toNat):0≤orI a b∧orI a b < 2 ^ m.toNat∧(orI a b).toNat=a.toNat ||| b.toNat:=by
 obtain ⟨x,rfl⟩:=Int.eq_ofNat_of_zero_le a0
 obtain ⟨y,rfl⟩:=Int.eq_ofNat_of_zero_le b0
 obtain ⟨p1,p2,p3⟩:=pow5 h1 h5
 have hx:x < 2 ^ m.toNat:=by omega
 have hy:y < 2 ^ m.toNat:=by omega
 have:=Nat.or_lt_two_pow hx hy
 rw [orI_nat (by omega) (by omega)]
 exact ⟨by omega,by omega,rfl⟩
end
section
attribute [-simp] DV.cells
attribute [local simp] cells_st cells_sl cells_i cells_y cells_b cells_s
def dT (t:T):T:=if t.1=2 then (3,0) else if t.1=3 then (2,0) else t
end
section
theorem fold_flt {P:Type} (mk:T→List P→P):∀ (x:Tm) (st:List P),(flt x).foldl (stepG mk) st=st++[valG mk x]
 | .tst a,st=>by simp [flt,valG,stepG_0]
 | .neg x,st=>by
  simp only [flt,List.foldl_append,fold_flt mk x,List.foldl_cons,List.foldl_nil]
  rw [stepG_1]; rfl
 | .and x y,st=>by
  simp only [flt,List.foldl_append,fold_flt mk x,fold_flt mk y,List.foldl_cons,List.foldl_nil,List.append_assoc,List.cons_append,List.nil_append]
  rw [stepG_2 _ _ _ _ _ _ (.inl rfl)]; rfl
 | .or x y,st=>by
  simp only [flt,List.foldl_append,fold_flt mk x,fold_flt mk y,List.foldl_cons,List.foldl_nil,List.append_assoc,List.cons_append,List.nil_append]
  rw [stepG_2 _ _ _ _ _ _ (.inr rfl)]; rfl
theorem tv_flt {m:Int} (hm:m≤5) {x:Tm} (hb:tb m x) {s:Nat} (hs:s < 32):tv (flt x) s=ev s x:=by
 unfold tv tsW
 rw [fold_flt]
 exact val_bit hm hb hs
end
section
theorem agB_iff:∀ {ks:List Int} {s:Nat},agB ks s=true↔∀ k v,ks[k]?=some v→v=-1∨v=bI (s.testBit k)
 | [],s=>by simp [agB,ag]
 | a :: r,s=>by
  rw [agB_cons]
  simp only [Bool.and_eq_true,Bool.or_eq_true,beq_iff_eq]
  rw [agB_iff (ks:=r)]
  constructor
  ·rintro ⟨h1,h2⟩ k v hv
   cases k with
   | zero=>simp at hv; subst hv; exact h1
   | succ k=>simp at hv; have:=h2 k v hv; rw [Nat.testBit_succ]; exact this
  ·intro h
   refine ⟨h 0 a rfl,fun k v hv=>?_⟩
   have:=h (k+1) v (by simpa using hv)
   rw [Nat.testBit_succ] at this
   exact this
theorem bI_inj {a b:Bool}:bI a=bI b↔a=b:=by cases a <;> cases b <;> simp [bI]
end
section
attribute [-simp] DV.cells
attribute [local simp] cells_st cells_sl cells_i cells_y cells_b cells_s cells_w
theorem or_fin:∀ (s:_root_.Fin 32) (k:_root_.Fin 5),orI (s.val:Int) ((2:Int) ^ k.val)=((s.val ||| 2 ^ k.val:Nat):Int):=by decide +kernel
theorem or_nat {s k:Nat} (hs:s < 32) (hk:k < 5):orI (s:Int) ((2:Int) ^ k)=((s ||| 2 ^ k:Nat):Int):=or_fin ⟨s,hs⟩ ⟨k,hk⟩
end
section
def orS (m:Int):Nat→List Int→Bool
 | _,[]=>true
 | so,a :: r=>decide (0≤a∧a < m) && !so.testBit a.toNat && orS m (so ||| 2 ^ a.toNat) r
def orOk (m:Int) (os:List Int):Bool:=nOk m && decide ((os.length:Int)=m) && orS m 0 os
def setO:Nat→List Int→Nat
 | so,[]=>so
 | so,a :: r=>setO (so ||| 2 ^ a.toNat) r
theorem orS_cons {m:Int} {so:Nat} {a:Int} {r:List Int}:orS m so (a :: r)=true↔(0≤a∧a < m)∧so.testBit a.toNat=false∧orS m (so ||| 2 ^ a.toNat) r=true:=by
 simp [orS,and_assoc]
theorem orOk_iff {m:Int} {os:List Int}:orOk m os=true↔(1≤m∧m≤5)∧(os.length:Int)=m∧orS m 0 os=true:=by
 rw [orOk,Bool.and_eq_true,Bool.and_eq_true,nOk_iff,decide_eq_true_eq,and_assoc]
theorem setO_app:∀ (so:Nat) (p q:List Int),setO so (p++q)=setO (setO so p) q
 | _,[],_=>rfl
 | so,a :: r,q=>setO_app (so ||| 2 ^ a.toNat) r q
theorem orS_app {m:Int}:∀ (so:Nat) (p q:List Int),orS m so (p++q)=(orS m so p && orS m (setO so p) q)
 | _,[],q=>by simp [orS,setO]
 | so,a :: r,q=>by simp only [List.cons_append,orS,setO,orS_app (so ||| 2 ^ a.toNat) r q,Bool.and_assoc]
theorem or_bit (so a k:Nat):(so ||| 2 ^ a).testBit k=(so.testBit k || decide (a=k)):=by
 rw [Nat.testBit_or,Nat.testBit_two_pow]
theorem or_lt2 {m so a:Nat} (h:so < 2 ^ m) (ha:a < m):so ||| 2 ^ a < 2 ^ m:=Nat.or_lt_two_pow h (Nat.pow_lt_pow_right (by omega) ha)
theorem setO_bit:∀ {os:List Int} {so k:Nat},(∀ o∈os,0≤o)→((setO so os).testBit k=true↔so.testBit k=true∨(k:Int)∈os)
 | [],_,_,_=>by simp [setO]
 | a :: r,so,k,h=>by
  have ha:=h a (by simp)
  rw [setO,setO_bit (os:=r) (fun o ho=>h o (by simp [ho])),or_bit]
  simp only [Bool.or_eq_true,decide_eq_true_eq,List.mem_cons]
  have:a.toNat=k↔(k:Int)=a:=by omega
  rw [this,or_assoc]
def uc (so:Nat):Nat→Nat
 | 0=>0
 | i+1=>uc so i+if so.testBit i then 0 else 1
theorem uc_zero:∀ n,uc 0 n=n
 | 0=>rfl
 | n+1=>by simp [uc,uc_zero n]
theorem uc_congr {a b:Nat}:∀ {n},(∀ k,k < n→a.testBit k=b.testBit k)→uc a n=uc b n
 | 0,_=>rfl
 | n+1,h=>by simp only [uc]; rw [uc_congr (fun k hk=>h k (by omega)),h n (by omega)]
theorem uc_or {so a:Nat}:∀ {n},a < n→so.testBit a=false→uc (so ||| 2 ^ a) n+1=uc so n
 | 0,h,_=>by omega
 | n+1,h,hb=>by
  simp only [uc]
  by_cases e:a=n
  ·subst e
   rw [uc_congr (a:=so ||| 2 ^ a) (b:=so) (fun k hk=>by rw [or_bit,decide_eq_false (by omega),Bool.or_false]),or_bit,hb]
   simp
  ·have:=uc_or (so:=so) (a:=a) (n:=n) (by omega) hb
   rw [or_bit,decide_eq_false e,Bool.or_false]
   omega
theorem uc_all {so:Nat}:∀ {n},uc so n=0→∀ k,k < n→so.testBit k=true
 | 0,_,k,hk=>by omega
 | n+1,h,k,hk=>by
  simp only [uc] at h
  rcases Nat.lt_succ_iff_lt_or_eq.1 hk with q | rfl
  ·exact uc_all (n:=n) (by omega) k q
  ·cases hb:so.testBit k with
   | true=>rfl
   | false=>rw [hb] at h; simp at h
theorem uc_setO {m:Int} (hm:0≤m):∀ {os:List Int} {so:Nat},orS m so os=true→uc (setO so os) m.toNat+os.length=uc so m.toNat
 | [],_,_=>by simp [setO]
 | a :: r,so,h=>by
  obtain ⟨h1,h2,h3⟩:=orS_cons.1 h
  have i:=uc_setO hm (os:=r) h3
  have u:=uc_or (so:=so) (a:=a.toNat) (n:=m.toNat) (by omega) h2
  simp only [setO,List.length_cons]; omega
theorem set_all {m:Int} {os:List Int} (h:orOk m os=true):∀ k,k < m.toNat→(setO 0 os).testBit k=true:=by
 obtain ⟨h1,h2,h3⟩:=orOk_iff.1 h
 have u:=uc_setO (by omega) h3
 rw [uc_zero] at u
 exact uc_all (by omega)
def gN (m:Int) (t:List T) (s:Nat):Nat→List Int→Nat
 | _,[]=>0
 | so,a :: r=>if prf m t s so then 0 else 1+gN m t s (so ||| 2 ^ a.toNat) r
def cA (us:List T) (a:Nat):Int:=(us.getD a (0,0)).1
def cB (us:List T) (so:Nat):Nat→Int
 | 0=>0
 | k+1=>cB us so k+if so.testBit k then cA us k else 0
theorem cA_nn {us:List T} (h:us.all tOk=true) (k:Nat):0≤cA us k∧(k < us.length→1≤cA us k)∧cA us k≤9:=by
 unfold cA
 by_cases hk:k < us.length
 ·have e:us.getD k (0,0)=us[k]:=by simp [List.getD,hk]
  rw [e]
  have:=tOk_iff.1 (List.all_eq_true.1 h us[k] (List.getElem_mem hk))
  omega
 ·have e:us.getD k (0,0)=(0,0):=by simp [List.getD,List.getElem?_eq_none (by omega:us.length≤k)]
  rw [e]; simp; omega
def owT (us t:List T) (so:Nat):Int:=sumTo (fun s=>if prf us.length t s so then 0 else wt us s) (2 ^ us.length)
def cC (us t:List T):Nat→List Int→Int
 | _,[]=>0
 | so,a :: r=>cA us a.toNat * owT us t so+cC us t (so ||| 2 ^ a.toNat) r
end
section
theorem orS_nodup {m:Int}:∀ {os:List Int} {so:Nat},orS m so os=true↔(∀ o∈os,(0≤o∧o < m)∧so.testBit o.toNat=false)∧os.Nodup
 | [],so=>by simp [orS]
 | a :: r,so=>by
  rw [orS_cons,orS_nodup (os:=r),List.nodup_cons]
  constructor
  ·rintro ⟨h1,h2,h3,h4⟩
   refine ⟨fun o ho=>?_,fun hm=>?_,h4⟩
   ·rcases List.mem_cons.1 ho with rfl | ho
    ·exact ⟨h1,h2⟩
    ·obtain ⟨q1,q2⟩:=h3 o ho
     rw [or_bit,Bool.or_eq_false_iff] at q2
     exact ⟨q1,q2.1⟩
   ·have q:=(h3 a hm).2
    rw [or_bit] at q; simp at q
  ·rintro ⟨h1,h2,h3⟩
   obtain ⟨a1,a2⟩:=h1 a (by simp)
   refine ⟨a1,a2,fun o ho=>?_,h3⟩
   obtain ⟨q1,q2⟩:=h1 o (by simp [ho])
   refine ⟨q1,?_⟩
   rw [or_bit,q2,Bool.false_or,decide_eq_false]
   intro e
   have:a=o:=by omega
   exact h2 (this ▸ ho)
theorem orS_perm {m:Int} {so:Nat} {p q:List Int} (h:p.Perm q):orS m so p=orS m so q:=by
 rw [Bool.eq_iff_iff,orS_nodup,orS_nodup,h.nodup_iff]
 constructor
 ·exact fun k=>⟨fun o ho=>k.1 o (h.mem_iff.2 ho),k.2⟩
 ·exact fun k=>⟨fun o ho=>k.1 o (h.mem_iff.1 ho),k.2⟩
theorem orOk_perm {m:Int} {p q:List Int} (h:p.Perm q):orOk m p=orOk m q:=by
 unfold orOk
 rw [orS_perm h,h.length_eq]
def rng (n:Nat):List Int:=(List.range n).map fun (k:Nat)=>(k:Int)
theorem rng_len (n:Nat):(rng n).length=n:=by simp [rng]
theorem rng_succ (n:Nat):rng (n+1)=rng n++[(n:Int)]:=by simp [rng,List.range_succ]
theorem mem_rng {n:Nat} {o:Int}:o∈rng n↔0≤o∧o < n:=by
 unfold rng
 rw [List.mem_map]
 constructor
 ·rintro ⟨k,h,rfl⟩; have:=List.mem_range.1 h; omega
 ·intro h; exact ⟨o.toNat,List.mem_range.2 (by omega),by omega⟩
theorem rng_ok {m:Int} (h:1≤m∧m≤5):orOk m (rng m.toNat)=true:=by
 rw [orOk_iff,orS_nodup]
 refine ⟨h,by rw [rng_len]; omega,fun o ho=>?_,?_⟩
 ·have:=mem_rng.1 ho
  exact ⟨by omega,by simp⟩
 ·unfold rng
  rw [List.nodup_iff_pairwise_ne,List.pairwise_map]
  exact List.Pairwise.imp (fun {a b} (hab:a≠b) h=>hab (Int.ofNat_inj.1 h)) (List.nodup_iff_pairwise_ne.1 List.nodup_range)
theorem orOk_len {m:Int} {os:List Int} (h:orOk m os=true):(os.length:Int)=m:=(orOk_iff.1 h).2.1
theorem perm_ok {m:Int} {os:List Int} (h:1≤m∧m≤5) (p:os.Perm (rng m.toNat)):orOk m os=true:=by rw [orOk_perm p]; exact rng_ok h
end
section
def hkn (m:Nat) (ks:List Int) (so:Nat):Prop:=∀ k,k < m→(ks[k]?=some (-1)↔so.testBit k=false)
def non (m:Nat):List Int:=List.replicate m (-1)
theorem wk_non:∀ us:List T,wk us (non us.length)=6 ^ us.length
 | []=>rfl
 | t :: r=>by
  have:=wk_non r
  unfold non at *
  rw [List.length_cons,List.replicate_succ,wk,this,if_pos rfl,Int.pow_succ,Int.mul_comm]
end
section
attribute [-simp] DV.cells sliceD
attribute [local simp] cells_st cells_sl cells_i cells_y cells_b cells_s cells_w
theorem hasTest_i {so:Nat} {a:Int} (h0:0≤a) (h5:a < 5):call lf n_impl_hasTest [.i so,.i a]=some (.b (so.testBit a.toNat),[]):=by
 have:=c_impl_hasTest so a.toNat (by omega)
 rw [Int.toNat_of_nonneg h0] at this
 exact this
theorem or_i {so:Nat} {a:Int} (hs:so < 32) (h0:0≤a) (h5:a < 5):orI (so:Int) (shlI 1 a)=((so ||| 2 ^ a.toNat:Nat):Int):=by
 rw [shl1 h0 (by omega)]
 exact or_nat hs (by omega)
theorem pow_le5 {m:Int} (h:1≤m∧m≤5):2 ^ m.toNat≤32:=(pow5 h.1 h.2).2.1
theorem l_impl_OrderOk {m:Int} (hm:1≤m∧m≤5) (n:Int) (hb:n < 1099511627776) (es:List DV) (rest:List Int):∀ (k:Int) (so:Nat),so < 2 ^ m.toNat→0≤k→k+(rest.map DV.i).length=n→es.drop k.toNat=rest.map .i →
  ex lf F_impl_OrderOk_W0 ⟨[(0,.i m),(5,.i so),(17,.sl 0 es),(18,.i n),(19,.i k)],[]⟩ =
  if orS m so rest=true then some (.exit 0,⟨[(0,.i m),(5,.i (setO so rest:Nat)),(17,.sl 0 es),(18,.i n),(19,.i n)],[]⟩) else some (.ret,⟨[(4,.b false)],[]⟩):=by
 have p5:=pow_le5 hm
 induction rest with
 | nil =>
  intro k so hs h0 hn hd
  rw [w_impl_OrderOk_0]
  have hk:k=n:=by simpa using hn
  simp [F_impl_OrderOk_L0,hk,orS,setO]
 | cons a rest ih =>
  intro k so hs h0 hn hd
  obtain ⟨q1,q2,q3,q4,q5,q6⟩:=stp h0 hn hb hd
  have w:wr (m - 1)=m - 1:=wr_id (by omega) (by omega)
  rw [w_impl_OrderOk_0]
  by_cases ha:0≤a∧a < m
  ·have e1:decide (0≤a∧a≤m - 1)=true:=decide_eq_true (by omega)
   have e2:decide (0≤a∧a < m)=true:=decide_eq_true ha
   have H:=hasTest_i (so:=so) ha.1 (by omega)
   have n0:¬ a < 0:=by omega
   have o:=or_i (so:=so) (by omega) ha.1 (by omega:a < 5)
   have ih:=ih (k+1) (so ||| 2 ^ a.toNat) (or_lt2 hs (by omega)) q4 q5 q6
   simp only [orS,e2,Bool.true_and,setO]
   cases hb:so.testBit a.toNat with
   | true =>
    rw [hb] at H
    simp [F_impl_OrderOk_L0,q1,q2,q3,w,c_impl_isWithin,e1,H]
   | false =>
    rw [hb] at H
    simp [F_impl_OrderOk_L0,q1,q2,q3,w,c_impl_isWithin,e1,H,n0,o,ih]
  ·have e1:decide (0≤a∧a≤m - 1)=false:=decide_eq_false (by omega)
   have e2:decide (0≤a∧a < m)=false:=decide_eq_false ha
   simp only [orS,e2,Bool.false_and]
   simp [F_impl_OrderOk_L0,q1,q2,q3,w,c_impl_isWithin,e1]
theorem c_impl_OrderOk (m:Int) (os:List Int) (hb:(os.length:Int) < 1099511627776):call lf n_impl_OrderOk [.i m,.sl 0 (os.map .i)]=some (.b (orOk m os),[]):=by
 rw [call_k lf n_impl_OrderOk _ (F:=F_impl_OrderOk) rfl rfl]
 unfold orOk
 cases h1:nOk m with
 | false=>simp [F_impl_OrderOk,c_impl_manyOk,h1]
 | true =>
  by_cases h2:(os.length:Int)=m
  ·have L:=l_impl_OrderOk (nOk_iff.1 h1) os.length hb (os.map .i) os 0 0 (Nat.pow_pos (by omega)) (by omega) (by simp) (by simp)
   simp only [Int.natCast_zero] at L
   cases h3:orS m 0 os <;> rw [h3] at L <;> simp at L <;> simp [F_impl_OrderOk,c_impl_manyOk,h1,h2,L,h3] <;> (subst h2; simp [L])
  ·have y:((os.length:Int) != m)=true:=bne_iff_ne.2 h2
   simp [F_impl_OrderOk,c_impl_manyOk,h1,y,h2]
end
section
def rwOk (row:Int):Bool:=decide (0≤row∧row≤1)
def eA (us:List T) (row:Int) (a:Nat):Int:=if row=0 then 6 - (us.getD a (0,0)).2 else (us.getD a (0,0)).2
def rA (us:List T) (row:Int):Int→List Int→Int
 | _,[]=>0
 | on,a :: r=>cA us a.toNat * on * 6 ^ (r.length+1)+rA us row (on * (6 - eA us row a.toNat)) r
theorem eA_bd {us:List T} (h:us.all tOk=true) {row:Int} {a:Nat} (ha:a < us.length):1≤eA us row a∧eA us row a≤5:=by
 have e:us.getD a (0,0)=us[a]:=by simp [List.getD,ha]
 have:=tOk_iff.1 (List.all_eq_true.1 h us[a] (List.getElem_mem ha))
 unfold eA
 rw [e]
 split <;> omega
end
section
def rLe (us:List T) (row:Int) (a b:Int):Bool:=decide (cA us a.toNat * eA us row b.toNat≤cA us b.toNat * eA us row a.toNat)
def insR (us:List T) (row:Int) (k:Int):List Int→List Int
 | []=>[k]
 | o :: r=>if rLe us row o k=true then o :: insR us row k r else k :: o :: r
def rO (us:List T) (row:Int):Nat→List Int
 | 0=>[]
 | n+1=>insR us row (n:Int) (rO us row n)
theorem insR_perm (us:List T) (row k:Int):∀ l:List Int,(insR us row k l).Perm (k :: l)
 | []=>List.Perm.refl _
 | o :: r=>by
  simp only [insR]
  split
  ·exact ((insR_perm us row k r).cons o).trans (List.Perm.swap k o r)
  ·exact List.Perm.refl _
theorem rO_perm (us:List T) (row:Int):∀ n:Nat,(rO us row n).Perm (rng n)
 | 0=>List.Perm.refl _
 | n+1=>by
  rw [rng_succ]
  exact (insR_perm us row n (rO us row n)).trans (((rO_perm us row n).cons (n:Int)).trans (List.perm_append_comm (l₁:=[(n:Int)])))
theorem rO_mem {us:List T} {row:Int} {n:Nat} {o:Int} (h:o∈rO us row n):0≤o∧o < n:=mem_rng.1 ((rO_perm us row n).mem_iff.1 h)
theorem rO_len (us:List T) (row:Int) (n:Nat):(rO us row n).length=n:=by rw [(rO_perm us row n).length_eq,rng_len]
theorem rO_ok {us:List T} (h:tsOk us=true) (row:Int):orOk us.length (rO us row us.length)=true:=by
 have h':=tsOk_iff.1 h
 exact perm_ok (m:=us.length) (by omega) (by rw [Int.toNat_natCast]; exact rO_perm us row us.length)
theorem rLe_trans {us:List T} (h:us.all tOk=true) {row a b c:Int} (ha:a.toNat < us.length) (hb:b.toNat < us.length) (hc:c.toNat < us.length)
  (h1:rLe us row a b=true) (h2:rLe us row b c=true):rLe us row a c=true:=by
 unfold rLe at *
 rw [decide_eq_true_eq] at *
 have ea:=eA_bd h (row:=row) ha
 have eb:=eA_bd h (row:=row) hb
 have ec:=eA_bd h (row:=row) hc
 refine Int.le_of_mul_le_mul_right (a:=eA us row b.toNat) ?_ (by omega)
 have q1:=Int.mul_le_mul_of_nonneg_right h1 (show 0≤eA us row c.toNat by omega)
 have q2:=Int.mul_le_mul_of_nonneg_right h2 (show 0≤eA us row a.toNat by omega)
 revert q1 q2
 generalize cA us a.toNat=ca
 generalize cA us b.toNat=cb
 generalize cA us c.toNat=cc
 generalize eA us row a.toNat=x
 generalize eA us row b.toNat=y
 generalize eA us row c.toNat=z
 intro q1 q2
 have e1:ca * z * y=ca * y * z:=by rw [Int.mul_assoc,Int.mul_comm z,Int.mul_assoc]
 have e2:cb * x * z=cb * z * x:=by rw [Int.mul_assoc,Int.mul_comm x,Int.mul_assoc]
 have e3:cc * x * y=cc * y * x:=by rw [Int.mul_assoc,Int.mul_comm x,Int.mul_assoc]
 omega
theorem rLe_total {us:List T} {row a b:Int} (h:rLe us row a b=false):rLe us row b a=true:=by
 unfold rLe at *
 rw [decide_eq_true_eq]
 rw [decide_eq_false_iff_not] at h
 omega
theorem insR_sorted {us:List T} (h:us.all tOk=true) {row k:Int} (hk:k.toNat < us.length):∀ {l:List Int},(∀ o∈l,o.toNat < us.length)→l.Pairwise (fun a b=>rLe us row a b=true)→(insR us row k l).Pairwise (fun a b=>rLe us row a b=true)
 | [],_,_=>List.pairwise_singleton _ _
 | o :: r,hm,hp=>by
  obtain ⟨p1,p2⟩:=List.pairwise_cons.1 hp
  have ho:=hm o (List.mem_cons_self ..)
  have hr:∀ x∈r,x.toNat < us.length:=fun x hx=>hm x (List.mem_cons_of_mem _ hx)
  simp only [insR]
  by_cases hc:rLe us row o k=true
  ·rw [if_pos hc]
   refine List.pairwise_cons.2 ⟨fun x hx=>?_,insR_sorted h hk hr p2⟩
   rcases List.mem_cons.1 ((insR_perm us row k r).mem_iff.1 hx) with rfl | hx
   ·exact hc
   ·exact p1 x hx
  ·rw [if_neg hc]
   have hc':rLe us row k o=true:=rLe_total (by simpa using hc)
   refine List.pairwise_cons.2 ⟨fun x hx=>?_,hp⟩
   rcases List.mem_cons.1 hx with rfl | hx
   ·exact hc'
   ·exact rLe_trans h hk ho (hr x hx) hc' (p1 x hx)
theorem rO_sorted {us:List T} (h:us.all tOk=true) (row:Int):∀ n:Nat,n≤us.length→(rO us row n).Pairwise (fun a b=>rLe us row a b=true)
 | 0,_=>List.Pairwise.nil
 | n+1,hn=>by
  refine insR_sorted h (by omega) (fun o ho=>?_) (rO_sorted h row n (by omega))
  have:=rO_mem ho
  omega
theorem rng_nodup (n:Nat):(rng n).Nodup:=List.Pairwise.map _ (fun a b h e=>h (by omega)) (List.nodup_range (n:=n))
theorem or_perm {m:Int} {os:List Int} (h:orOk m os=true):os.Perm (rng m.toNat):=by
 obtain ⟨g1,g2,g3⟩:=orOk_iff.1 h
 obtain ⟨n1,n2⟩:=orS_nodup.1 g3
 refine (List.perm_ext_iff_of_nodup n2 (rng_nodup _)).2 fun o=>?_
 constructor
 ·intro ho
  exact mem_rng.2 (by have:=(n1 o ho).1; omega)
 ·intro ho
  have hr:=mem_rng.1 ho
  have:=set_all h o.toNat (by omega)
  rw [setO_bit (fun x hx=>(n1 x hx).1.1)] at this
  rcases this with q | q
  ·simp at q
  ·rwa [Int.toNat_of_nonneg hr.1] at q
end
section
def fl (s:Int) (i:Nat):Bool:=s / 2 ^ i % 2 == 1
def onceM:List T→Int→Bool
 | [],_=>true
 | t :: r,s=>if t.1=0 then (!fl s t.2.toNat && onceM r (orI s (2 ^ t.2.toNat))) else onceM r s
def onceOk (m:Int) (ts:List T):Bool:=tmOk m ts && onceM ts 0
end
section
def prR (us:List T) (row:Int):Int→List Int→Int
 | on,[]=>on
 | on,a :: r=>prR us row (on * (6 - eA us row a.toNat)) r
def pY:List T→Int
 | []=>1
 | t :: r=>t.2 * pY r
def pN:List T→Int
 | []=>1
 | t :: r=>(6 - t.2) * pN r
theorem wt_none:∀ us:List T,wt us ((0:Nat):Int)=pN us
 | []=>rfl
 | t :: r=>by
  have:=(wt_two t r 0).1
  rw [wt_none r] at this
  exact this
end
section
attribute [-simp] DV.cells sliceD
attribute [local simp] cells_st cells_sl cells_i cells_y cells_b cells_s cells_w
theorem non_len (k:Nat):(non k).length=k:=by simp [non]
end
section
attribute [-simp] DV.cells sliceD
attribute [local simp] cells_st cells_sl cells_i cells_y cells_b cells_s cells_w
theorem cA_at {us:List T} {a:Int} (h0:0≤a) (h1:a < us.length):∃ c q:Int,atI (us.map e2) a=some (.st [.i c,.i q])∧c=cA us a.toNat∧us.getD a.toNat (0,0)=(c,q):=by
 have hl:a.toNat < us.length:=by omega
 have e:us.getD a.toNat (0,0)=us[a.toNat]:=by simp [List.getD,hl]
 refine ⟨us[a.toNat].1,us[a.toNat].2,?_,?_,e⟩
 ·simp only [atI,if_pos h0]
  show (us.map e2)[a.toNat]?=_
  simp [hl,e2]
 ·unfold cA; rw [e]
end
section
attribute [-simp] DV.cells sliceD
attribute [local simp] cells_st cells_sl cells_i cells_y cells_b cells_s cells_w
theorem p6:∀ {n:Nat},n≤5→(1:Int)≤6 ^ n∧(6:Int) ^ n≤7776:=by
 intro n hn
 have:n=0∨n=1∨n=2∨n=3∨n=4∨n=5:=by omega
 rcases this with rfl | rfl | rfl | rfl | rfl | rfl <;> decide
theorem c_spec_l1Power {n:Nat} (h:n≤5):call lf n_spec_l1Power [.i n]=some (.i (6 ^ n),[]):=by
 have L:=loop_count (lf:=lf) (L:=F_spec_l1Power_L0) n (fun i=>⟨[(0,.i n),(3,.i (6 ^ i)),(4,.i i)],[]⟩) (x:=.exit 0) (R:=⟨[(0,.i n),(3,.i (6 ^ n)),(4,.i n)],[]⟩) (fun i hi=>by
  have p:=p6 (n:=i) (by omega)
  have w1:wr ((i:Int)+1)=i+1:=wr_id (by omega) (by omega)
  have w2:wr ((6:Int) ^ i * 6)=6 ^ (i+1):=by rw [wr_id (by omega) (by omega),Int.pow_succ]
  simp [F_spec_l1Power_L0,hi,w1,w2]) (by simp [F_spec_l1Power_L0]) (by simp)
 have L':ex lf F_spec_l1Power_W0 ⟨[(0,.i n),(3,.i 1),(4,.i 0)],[]⟩=some (.exit 0,⟨[(0,.i n),(3,.i (6 ^ n)),(4,.i n)],[]⟩):=L
 rw [call_k lf n_spec_l1Power _ (F:=F_spec_l1Power) rfl rfl]
 simp [F_spec_l1Power,L']
def stW (us:List T) (tab:Nat) (os:List Int) (k:Nat) (ks:List Int) (w a sum sd:Int):LS :=
 ⟨[(0,.sl 0 (us.map e2)),(1,.i tab),(2,.sl 0 (os.map .i)),(3,.i k),(4,.sl 0 (ks.map .i)),(5,.i w),(13,.i a),(14,.i sum),(15,.i sd)],[]⟩
end
section
attribute [-simp] DV.cells
attribute [local simp] sliceD cells_st cells_sl cells_i cells_y cells_b cells_s cells_w
def raOk (us:List T) (os:List Int) (row:Int):Bool:=tsOk us && orOk us.length os && rwOk row
def raOf (us:List T) (os:List Int) (row:Int):Int:=if raOk us os row then rA us row 1 os else -1
theorem p6le {i j:Nat} (h:i+j≤5) {on:Int} (h0:0≤on) (h1:on≤6 ^ i):0≤on * 6 ^ j∧on * 6 ^ j≤7776:=by
 have pj:=p6 (n:=j) (by omega)
 have q:=(p6 h).2
 rw [Int.pow_add] at q
 have:=Int.mul_le_mul_of_nonneg_right h1 (show (0:Int)≤6 ^ j by omega)
 have:=Int.mul_nonneg h0 (show (0:Int)≤6 ^ j by omega)
 omega
end
section
attribute [-simp] DV.cells
attribute [local simp] sliceD cells_st cells_sl cells_i cells_y cells_b cells_s cells_w
def insPos (us:List T) (row k:Int):List Int→Nat
 | []=>0
 | o :: r=>if rLe us row o k=true then insPos us row k r+1 else 0
theorem insPos_le (us:List T) (row k:Int):∀ l:List Int,insPos us row k l≤l.length
 | []=>Nat.le_refl _
 | o :: r=>by
  have:=insPos_le us row k r
  simp only [insPos,List.length_cons]
  split <;> omega
theorem insR_pos (us:List T) (row k:Int):∀ l:List Int,insR us row k l=l.take (insPos us row k l)++k :: l.drop (insPos us row k l)
 | []=>rfl
 | o :: r=>by
  simp only [insR,insPos]
  by_cases h:rLe us row o k=true
  ·rw [if_pos h,if_pos h,insR_pos us row k r]; simp
  ·rw [if_neg h,if_neg h]; simp
end
section
attribute [-simp] DV.cells
attribute [local simp] sliceD cells_st cells_sl cells_i cells_y cells_b cells_s cells_w
def roL (us:List T) (row:Int):List Int:=if tsOk us && rwOk row then rO us row us.length else []
end
section
inductive PT where
 | stop
 | ask (k:Nat) (no yes:PT)
def uk:List Int→Nat
 | []=>0
 | k :: r=>(if k=-1 then 1 else 0)+uk r
theorem uk_set {b:Int} (hb:b≠-1):∀ {ks:List Int} {k:Nat},ks[k]?=some (-1)→uk (ks.set k b)+1=uk ks
 | [],k,h=>by simp at h
 | x :: r,0,h=>by
  simp only [List.getElem?_cons_zero,Option.some.injEq] at h
  subst h
  simp only [List.set_cons_zero,uk,if_neg hb,if_true]
  omega
 | x :: r,k+1,h=>by
  simp only [List.getElem?_cons_succ] at h
  have:=uk_set hb h
  simp only [List.set_cons_succ,uk]
  omega
theorem uk_non (m:Nat):uk (non m)=m:=by
 induction m with
 | zero=>rfl
 | succ n ih =>
  show uk (List.replicate (n+1) (-1))=n+1
  rw [List.replicate_succ,uk,if_pos rfl,show List.replicate n (-1:Int)=non n from rfl,ih]
  omega
theorem wk_put:∀ {us:List T} {ks:List Int} {k:Nat},ks.length=us.length→ks[k]?=some (-1) →
  ∃ w,wk us ks=6 * w∧wk us (ks.set k 0)=w * (6 - (us.getD k (0,0)).2)∧wk us (ks.set k 1)=w * (us.getD k (0,0)).2
 | _,[],k,_,h=>by simp at h
 | [],x :: r,k,hl,h=>by simp at hl
 | t :: us,x :: r,0,hl,h=>by
  simp only [List.getElem?_cons_zero,Option.some.injEq] at h
  subst h
  refine ⟨wk us r,rfl,?_,?_⟩
  ·show (6 - t.2) * wk us r=_
   rw [Int.mul_comm]; rfl
  ·show t.2 * wk us r=_
   rw [Int.mul_comm]; rfl
 | t :: us,x :: r,k+1,hl,h=>by
  simp only [List.getElem?_cons_succ] at h
  obtain ⟨w,h1,h2,h3⟩:=wk_put (us:=us) (by simpa using hl) h
  have e:∀ ks:List Int,wk (t :: us) (x :: ks)=(if x=-1 then 6 else if x=1 then t.2 else 6 - t.2) * wk us ks:=fun _=>rfl
  generalize hc:(if x=-1 then 6 else if x=1 then t.2 else 6 - t.2)=c at e
  refine ⟨c * w,?_,?_,?_⟩
  ·rw [e,h1,Int.mul_left_comm]
  ·rw [List.set_cons_succ,e,h2,Int.mul_assoc]; rfl
  ·rw [List.set_cons_succ,e,h3,Int.mul_assoc]; rfl
theorem agB_put {b:Bool} {s:Nat}:∀ {ks:List Int} {k:Nat},ks[k]?=some (-1)→agB (ks.set k (bI b)) s=(agB ks s && (s.testBit k == b)):=by
 intro ks k h
 rw [Bool.eq_iff_iff,Bool.and_eq_true,agB_iff,agB_iff,beq_iff_eq]
 have hk:k < ks.length:=(List.getElem?_eq_some_iff.1 h).1
 constructor
 ·intro H
  refine ⟨fun j v hj=>?_,?_⟩
  ·by_cases e:j=k
   ·subst e; rw [h] at hj; injection hj with hj; exact .inl hj.symm
   ·exact H j v (by rw [List.getElem?_set_ne (Ne.symm e)]; exact hj)
  ·rcases H k (bI b) (by rw [List.getElem?_set_self hk]) with q | q
   ·cases b <;> simp [bI] at q
   ·exact (bI_inj.1 q).symm
 ·rintro ⟨H,hb⟩ j v hj
  by_cases e:j=k
  ·subst e
   rw [List.getElem?_set_self hk] at hj
   injection hj with hj
   right
   rw [← hj,hb]
  ·rw [List.getElem?_set_ne (Ne.symm e)] at hj
   exact H j v hj
theorem bI_0:bI false=0:=rfl
theorem bI_1:bI true=1:=rfl
theorem kOk_set {ks:List Int} (h:ks.all kOk=true) (k:Nat) (b:Bool):(ks.set k (bI b)).all kOk=true:=by
 rw [List.all_eq_true] at h ⊢
 intro x hx
 rcases List.mem_or_eq_of_mem_set hx with h1 | h1
 ·exact h x h1
 ·rw [h1]; cases b <;> decide
theorem non_all (m:Nat):(non m).all kOk=true:=by
 rw [List.all_eq_true]
 intro x hx
 rw [List.eq_of_mem_replicate hx]
 decide
theorem agB_non (m s:Nat):agB (non m) s=true:=by
 rw [agB_iff]
 intro k v h
 left
 exact List.eq_of_mem_replicate (List.mem_of_getElem? h)
def fcd (m:Nat) (t:List T) (ks:List Int):Bool:=foT m t ks != -1
theorem fcd_iff {m:Nat} {t:List T} {ks:List Int} (hl:ks.length=m) (hk:ks.all kOk=true):fcd m t ks=true↔∃ b,∀ s,s < 2 ^ m→agB ks s=true→tv t s=b:=by
 subst hl
 have hne:=agB_some hk
 have F:=fun b=>fo_b (f:=tv t) (g:=agB ks) hne b
 have O:=fo_or (tv t) (agB ks) (2 ^ ks.length)
 unfold fcd foT
 rw [Int.toNat_natCast,bne_iff_ne]
 constructor
 ·intro h
  rcases O with o | o | o
  ·exact ⟨true,(F true).1 o⟩
  ·exact ⟨false,(F false).1 o⟩
  ·exact absurd o h
 ·rintro ⟨b,hb⟩ h
  have:=(F b).2 hb
  rw [h] at this
  cases b <;> simp [bI] at this
def okT (m:Nat) (t:List T):List Int→PT→Prop
 | ks,.stop=>fcd m t ks=true
 | ks,.ask k n y=>fcd m t ks=false∧ks[k]?=some (-1)∧okT m t (ks.set k 0) n∧okT m t (ks.set k 1) y
def tA (us:List T):List Int→PT→Int
 | _,.stop=>0
 | ks,.ask k n y=>wk us ks * cA us k+tA us (ks.set k 0) n+tA us (ks.set k 1) y
end
section
theorem ks_ex {ks:List Int} {k:Nat} (h:ks[k]?=some (-1)):k < ks.length:=(List.getElem?_eq_some_iff.1 h).1
def asks (k:Nat):PT→Prop
 | .stop=>False
 | .ask j n y=>j=k∨asks k n∨asks k y
end
section
def dpT:PT→Nat
 | .stop=>0
 | .ask _ n y=>1+max (dpT n) (dpT y)
theorem dpT_le {m:Nat} {t:List T}:∀ (x:PT) (ks:List Int),ks.length=m→okT m t ks x→dpT x≤uk ks
 | .stop,_,_,_=>Nat.zero_le _
 | .ask k n y,ks,hl,⟨h1,h2,h3,h4⟩=>by
  have q:=fun (b:Bool)=>uk_set (b:=bI b) (by cases b <;> simp [bI]) h2
  have a0:=dpT_le n (ks.set k (bI false)) (by simpa using hl) h3
  have a1:=dpT_le y (ks.set k (bI true)) (by simpa using hl) h4
  have q0:=q false
  have q1:=q true
  simp only [dpT]
  omega
end
section
def occ (a:Nat):Tm→Bool
 | .tst b=>b == a
 | .neg x=>occ a x
 | .and x y=>occ a x || occ a y
 | .or x y=>occ a x || occ a y
def ton:Tm→Prop
 | .tst _=>True
 | .neg x=>ton x
 | .and x y=>ton x∧ton y∧∀ a,occ a x=true→occ a y=false
 | .or x y=>ton x∧ton y∧∀ a,occ a x=true→occ a y=false
theorem fl_bit {s:Int} (h0:0≤s) (i:Nat):fl s i=s.toNat.testBit i:=by
 obtain ⟨n,rfl⟩:=Int.eq_ofNat_of_zero_le h0
 unfold fl
 rw [div_bI,bI_eq1]; simp
theorem lett_occ {m:Int} (h1:1≤m) (h5:m≤5):∀ {x:Tm},tb m x→∀ {s:Int},0≤s→s < 2 ^ m.toNat→(0≤(flt x).foldl letF s∧(flt x).foldl letF s < 2 ^ m.toNat)∧∀ a,((flt x).foldl letF s).toNat.testBit a=(s.toNat.testBit a || occ a x)
 | .tst b,hb,s,h0,h2=>by
  have hb':(b:Int) < m:=hb
  have e:(flt (.tst b)).foldl letF s=orI s (2 ^ b):=by simp [flt,letF]
  have hp:((2 ^ b:Nat):Int)=2 ^ b:=by simp
  have hk2:(2 ^ b:Nat) < 2 ^ m.toNat:=Nat.pow_lt_pow_right (by omega) (by omega)
  obtain ⟨p1,p2,p3⟩:=pow5 h1 h5
  obtain ⟨q1,q2,q3⟩:=or_lt h1 h5 h0 h2 (b:=2 ^ b) (by rw [← hp]; exact Int.natCast_nonneg _) (by rw [← hp]; omega)
  rw [e]
  refine ⟨⟨q1,q2⟩,fun a=>?_⟩
  rw [q3,← hp,Int.toNat_natCast,Nat.testBit_or,Nat.testBit_two_pow]
  rfl
 | .neg x,hb,s,h0,h2=>by
  obtain ⟨q1,q2⟩:=lett_occ h1 h5 (x:=x) hb h0 h2
  have e:(flt (.neg x)).foldl letF s=(flt x).foldl letF s:=by simp [flt,letF]
  rw [e]
  exact ⟨q1,q2⟩
 | .and x y,hb,s,h0,h2=>by
  obtain ⟨q1,q2⟩:=lett_occ h1 h5 (x:=x) hb.1 h0 h2
  obtain ⟨r1,r2⟩:=lett_occ h1 h5 (x:=y) hb.2 q1.1 q1.2
  have e:(flt (.and x y)).foldl letF s=(flt y).foldl letF ((flt x).foldl letF s):=by simp [flt,letF]
  rw [e]
  exact ⟨r1,fun a=>by rw [r2,q2]; simp only [occ,Bool.or_assoc]⟩
 | .or x y,hb,s,h0,h2=>by
  obtain ⟨q1,q2⟩:=lett_occ h1 h5 (x:=x) hb.1 h0 h2
  obtain ⟨r1,r2⟩:=lett_occ h1 h5 (x:=y) hb.2 q1.1 q1.2
  have e:(flt (.or x y)).foldl letF s=(flt y).foldl letF ((flt x).foldl letF s):=by simp [flt,letF]
  rw [e]
  exact ⟨r1,fun a=>by rw [r2,q2]; simp only [occ,Bool.or_assoc]⟩
end
section
abbrev C3:=Int×Int×Int
inductive LT where
 | stop
 | ask (p k:Nat) (no yes:LT)
def LT.er:LT→PT
 | .stop=>.stop
 | .ask _ k n y=>.ask k n.er y.er
def LT.size:LT→Nat
 | .stop=>0
 | .ask _ _ n y=>1+n.size+y.size
def nxt (N:Nat) (p:Nat) (a:Int):Prop:=a=-1∨((p:Int)+1≤a∧a≤(N:Int) - 1)
instance (N p:Nat) (a:Int):Decidable (nxt N p a):=by unfold nxt; infer_instance
def enc (P:List C3):Int→LT→Prop
 | a,.stop=>a=-1
 | a,.ask p k n y=>a=(p:Int)∧∃ no ye,P[p]?=some ((k:Int),no,ye)∧nxt P.length p no∧nxt P.length p ye∧enc P no n∧enc P ye y
def rfs:List C3→List Int
 | []=>[]
 | (_,no,ye) :: r=>(if no=-1 then [] else [no])++(if ye=-1 then [] else [ye])++rfs r
end
section
def PT.size:PT→Nat
 | .stop=>0
 | .ask _ n y=>1+n.size+y.size
def rt:PT→Nat→Int
 | .stop,_=>-1
 | .ask _ _ _,b=>(b:Int)
def ser:PT→Nat→List C3
 | .stop,_=>[]
 | .ask k n y,b=>((k:Int),rt n (b+1),rt y (b+1+n.size)) :: (ser n (b+1)++ser y (b+1+n.size))
theorem ser_len:∀ (x:PT) (b:Nat),(ser x b).length=x.size
 | .stop,_=>rfl
 | .ask k n y,b=>by simp only [ser,List.length_cons,List.length_append,PT.size]; rw [ser_len n,ser_len y]; omega
theorem size_dep:∀ x:PT,x.size+1≤2 ^ dpT x
 | .stop=>Nat.le_refl _
 | .ask k n y=>by
  have a:=size_dep n
  have b:=size_dep y
  have e1:2 ^ dpT n≤2 ^ max (dpT n) (dpT y):=Nat.pow_le_pow_right (by omega) (Nat.le_max_left ..)
  have e2:2 ^ dpT y≤2 ^ max (dpT n) (dpT y):=Nat.pow_le_pow_right (by omega) (Nat.le_max_right ..)
  simp only [PT.size,dpT]
  rw [Nat.pow_add,Nat.pow_one]
  omega
theorem okT_size {m:Nat} {t:List T} (hm:m≤5) {x:PT} (h:okT m t (non m) x):x.size≤31:=by
 have d:=dpT_le x (non m) (non_len _) h
 rw [uk_non] at d
 have s:=size_dep x
 have:2 ^ dpT x≤2 ^ 5:=Nat.pow_le_pow_right (by omega) (by omega)
 omega
def rot (P:List C3):Int:=if P=[] then -1 else 0
end
section
attribute [-simp] DV.cells
attribute [local simp] sliceD cells_st cells_sl cells_i cells_y cells_b cells_s cells_w
theorem lend_e3 (P:List C3):lendL (P.map e3)=P.map e3:=by rw [lendL_map,List.map_map]; rfl
theorem adopt_e3 (o:Bool) (P:List C3):adoptL o (P.map e3)=P.map e3:=by rw [adoptL_map,List.map_map]; rfl
theorem new_e3 (P:List C3):allNewL (P.map e3)=true:=by rw [allNewL_all,List.all_map,List.all_eq_true]; intro x _; rfl
theorem al_e3 (P:List C3):allOldL (P.map e3)=true:=by rw [allOldL_all,List.all_map,List.all_eq_true]; intro x _; rfl
theorem tk_e3 (P:List C3):List.take P.length (P.map e3)=P.map e3:=List.take_of_length_le (by simp)
theorem lt_e3 (n:Nat) (P:List C3):lendL (List.take n (P.map e3))=List.take n (P.map e3):=by rw [← List.map_take,lend_e3]
theorem at_e3 {P:List C3} {p:Nat} {c:C3} (h:P[p]?=some c):atI (P.map e3) (p:Int)=some (.st [.i c.1,.i c.2.1,.i c.2.2]):=by
 simp only [atI,if_pos (Int.natCast_nonneg p)]
 show (P.map e3)[(p:Int).toNat]?=_
 rw [Int.toNat_natCast,List.getElem?_map,h]; rfl
attribute [local simp] lend_e3 adopt_e3 new_e3 al_e3 lt_e3
def C3.nx (c:C3) (b:Bool):Int:=if b then c.2.2 else c.2.1
end
section
def aN:List Int→Nat
 | []=>0
 | k :: r=>(if k=-1 then 0 else 1)+2 * aN r
def kn:List Int→Nat
 | []=>0
 | k :: r=>(if k=-1 then 0 else 1)+kn r
theorem aN_lt:∀ ks:List Int,aN ks < 2 ^ ks.length
 | []=>by decide
 | k :: r=>by
  have ih:=aN_lt r
  simp only [aN,List.length_cons,Nat.pow_succ]
  split <;> omega
theorem aN_non:∀ m:Nat,aN (non m)=0
 | 0=>rfl
 | m+1=>by
  show (if (-1:Int)=-1 then 0 else 1)+2 * aN (non m)=0
  rw [aN_non m]
  rfl
theorem aN_b0 (k:Int) (r:List Int):(aN (k :: r)).testBit 0=!decide (k=-1):=by
 simp only [aN,Nat.testBit_zero]
 by_cases h:k=-1
 ·simp [h]
 ·simp [h]
theorem aN_div (k:Int) (r:List Int):aN (k :: r) / 2=aN r:=by
 simp only [aN]
 split <;> omega
theorem aN_bs (k:Int) (r:List Int) (i:Nat):(aN (k :: r)).testBit (i+1)=(aN r).testBit i:=by
 rw [Nat.testBit_succ,aN_div]
theorem aN_bit:∀ {ks:List Int} {i:Nat},i < ks.length→((aN ks).testBit i=!decide (ks[i]?=some (-1)))
 | [],i,h=>by simp at h
 | k :: r,0,_=>by rw [aN_b0]; simp
 | k :: r,i+1,h=>by
  rw [aN_bs,aN_bit (ks:=r) (by simpa using h)]
  simp
theorem aN_set {ks:List Int} {k:Nat} {b:Int} (hb:b≠-1) (h:ks[k]?=some (-1)):aN (ks.set k b)=aN ks ||| 2 ^ k:=by
 apply Nat.eq_of_testBit_eq
 intro i
 have hk:=ks_ex h
 rw [Nat.testBit_or,Nat.testBit_two_pow]
 by_cases hi:i < ks.length
 ·rw [aN_bit (by simpa using hi),aN_bit hi]
  by_cases e:k=i
  ·subst e
   rw [List.getElem?_set_self hk]
   simp [hb]
  ·rw [List.getElem?_set_ne e]
   simp [e]
 ·have l1:=aN_lt (ks.set k b)
  have l2:=aN_lt ks
  rw [List.length_set] at l1
  have p:2 ^ ks.length≤2 ^ i:=Nat.pow_le_pow_right (by omega) (by omega)
  rw [Nat.testBit_lt_two_pow (by omega),Nat.testBit_lt_two_pow (by omega)]
  simp; omega
def lfW (ks:List Int):BitVec 32:=agW ks 0 (4294967295#32)
theorem lfW_bit {ks:List Int} (hk:ks.all kOk=true) (hl:ks.length≤5) {s:Nat} (hs:s < 32):(lfW ks).getLsbD s=agB ks s:=by
 unfold lfW
 rw [agW_bit hk (by omega) hs,ones_bit hs]
 simp
theorem lfW_non (m:Nat) (hm:m≤5):lfW (non m)=4294967295#32:=by
 apply BitVec.eq_of_getLsbD_eq
 intro s hs
 rw [lfW_bit (non_all m) (by rw [non_len]; exact hm) hs,agB_non,ones_bit hs]
def syW (k:Nat) (b:Bool):BitVec 32:=if b then yesW k else ~~~ yesW k
theorem lfW_set {ks:List Int} {k:Nat} (b:Bool) (hk:ks.all kOk=true) (hl:ks.length≤5) (h:ks[k]?=some (-1)):lfW (ks.set k (bI b))=lfW ks &&& syW k b:=by
 have hk5:=ks_ex h
 apply BitVec.eq_of_getLsbD_eq
 intro s hs
 have y:=yes_bit ⟨k,by omega⟩ ⟨s,hs⟩
 simp only at y
 rw [lfW_bit (kOk_set hk k b) (by simpa using hl) hs,agB_put h,BitVec.getLsbD_and,lfW_bit hk hl hs]
 unfold syW
 cases b with
 | true=>rw [if_pos rfl,y]; cases agB ks s <;> cases s.testBit k <;> rfl
 | false =>
  rw [if_neg (by simp),BitVec.getLsbD_not,y]
  cases agB ks s <;> cases s.testBit k <;> simp [hs]
theorem vaW_fcd {m:Nat} {t:List T} {ks:List Int} (h1:tmOk m t=true) (hl:ks.length=m) (hk:ks.all kOk=true):vaW (tsW t) (lfW ks)=foT m t ks:=by
 obtain ⟨h3,_,_⟩:=tmOk_iff.1 h1
 exact vaW_foT h1 (ksOk_iff.2 ⟨h3,by omega,hk⟩)
end
section
abbrev Pts:=List (Option (List Int))
def go3 (m:Nat) (t:List T) (N:Nat) (pts:Pts) (p:Int) (a:Int) (ks:List Int):Prop :=
 (a=-1∧fcd m t ks=true)∨(p+1≤a∧a≤(N:Int) - 1∧pts[a.toNat]?=some (some ks))
structure Inv (m:Nat) (t:List T) (P:List C3) (p:Nat) (pts:Pts):Prop where
 len:pts.length=P.length
 nd:(rfs (P.take p)).Nodup
 rng:∀ a∈rfs (P.take p),1≤a∧a < P.length
 iff_:∀ a:Nat,a < P.length→(pts[a]?≠some none↔(a=0∨(a:Int)∈rfs (P.take p)))
 ok:∀ (a:Nat) (ks:List Int),pts[a]?=some (some ks)→ks.length=m∧ks.all kOk=true∧fcd m t ks=false
 loc:∀ q:Nat,q < p→∃ (ks:List Int) (k no ye:Int),P[q]?=some (k,no,ye)∧pts[q]?=some (some ks)∧(0≤k∧k < m)∧ks[k.toNat]?=some (-1)∧go3 m t P.length pts q no (ks.set k.toNat 0)∧go3 m t P.length pts q ye (ks.set k.toNat 1)
end
section
attribute [-simp] DV.cells
attribute [local simp] sliceD cells_st cells_sl cells_i cells_y cells_b cells_s cells_w
attribute [local simp] lend_e3 adopt_e3 new_e3 al_e3 lt_e3
def pv (m a:Int) (w v:BitVec 32):DV:=.st [.i m,.i a,.w w,.w v]
def pD (m:Nat) (t:List T) (ks:List Int):DV:=pv m (aN ks) (lfW ks) (tsW t)
theorem c_value {m:Nat} {t:List T} {ks:List Int} (h1:tmOk m t=true) (hl:ks.length=m) (hk:ks.all kOk=true):call lf n_impl_point_value [pD m t ks]=some (.i (foT m t ks),[]):=by
 have C:=c_impl_valueAmong (tsW t) (lfW ks)
 rw [vaW_fcd h1 hl hk] at C
 unfold pD pv
 rw [call_k lf n_impl_point_value _ (F:=F_impl_point_value) rfl rfl]
 simp [F_impl_point_value,C]
theorem c_isForced {m:Nat} {t:List T} {ks:List Int} (h1:tmOk m t=true) (hl:ks.length=m) (hk:ks.all kOk=true):call lf n_impl_point_isForced [pD m t ks]=some (.b (fcd m t ks),[]):=by
 have C:=c_value h1 hl hk
 unfold pD pv at *
 rw [call_k lf n_impl_point_isForced _ (F:=F_impl_point_isForced) rfl rfl]
 unfold fcd
 simp [F_impl_point_isForced,C]
def caK (m:Nat) (ks:List Int) (a:Int):Bool:=decide (0≤a∧a < m) && decide (ks[a.toNat]?=some (-1))
theorem c_canAsk {m:Nat} {t:List T} {ks:List Int} (hm:m≤5) (hl:ks.length=m) (a:Int):call lf n_impl_point_canAsk [pD m t ks,.i a]=some (.b (caK m ks a),[]):=by
 have W:=c_impl_isWithin a 0 ((m:Int) - 1)
 have w1:wr ((m:Int) - 1)=(m:Int) - 1:=wr_id (by omega) (by omega)
 unfold pD pv
 rw [call_k lf n_impl_point_canAsk _ (F:=F_impl_point_canAsk) rfl rfl]
 unfold caK
 by_cases h:0≤a∧a < m
 ·obtain ⟨k,rfl⟩:=Int.eq_ofNat_of_zero_le h.1
  have e:decide (0≤(k:Int)∧(k:Int)≤(m:Int) - 1)=true:=decide_eq_true ⟨h.1,by omega⟩
  have H:=c_impl_hasTest (aN ks) k (by omega)
  have hb:=aN_bit (ks:=ks) (i:=k) (by omega)
  rw [hb] at H
  rw [e] at W
  rw [decide_eq_true h,Int.toNat_natCast]
  generalize aN ks=x at *
  generalize lfW ks=y at *
  simp [F_impl_point_canAsk,w1,W,H]
 ·have e:decide (0≤a∧a≤(m:Int) - 1)=false:=decide_eq_false (by omega)
  rw [e] at W
  rw [decide_eq_false h]
  simp [F_impl_point_canAsk,w1,W]
theorem c_answered {m:Nat} {t:List T} {ks:List Int} {k:Nat} (b:Bool) (hl:ks.length≤5) (hk:ks.all kOk=true) (h:ks[k]?=some (-1)):call lf n_impl_point_answered [pD m t ks,.i k,.i (bI b)]=some (pD m t (ks.set k (bI b)),[]):=by
 have hlt:=ks_ex h
 have C:=c_impl_statesSaying (k:=k) (by omega) (bI b)
 have e1:syI k (bI b)=syW k b:=by cases b <;> rfl
 rw [e1] at C
 have sh:=shl1 (k:=(k:Int)) (by omega) (by omega)
 have nk:¬ (k:Int) < 0:=by omega
 have l:=aN_lt ks
 have p:2 ^ ks.length≤2 ^ 5:=Nat.pow_le_pow_right (by omega) hl
 have p2:2 ^ k≤2 ^ 5:=Nat.pow_le_pow_right (by omega) (by omega)
 have o:=orI_nat (a:=aN ks) (b:=2 ^ k) (by omega) (by omega)
 rw [← aN_set (b:=bI b) (by cases b <;> simp [bI]) h] at o
 have e2:=lfW_set b hk hl h
 unfold pD pv
 rw [call_k lf n_impl_point_answered _ (F:=F_impl_point_answered) rfl rfl]
 rw [e2]
 have o':orI (aN ks) (2 ^ k)=aN (ks.set k (bI b)):=by
  have:((2 ^ k:Nat):Int)=2 ^ k:=by simp
  rw [← this]; exact o
 rw [Int.toNat_natCast] at sh
 generalize aN (ks.set k (bI b))=x at *
 generalize aN ks=y at *
 generalize lfW ks=z at *
 generalize (2:Int) ^ k=w at *
 simp [F_impl_point_answered,C,sh,nk,o']
theorem c_startOf {m:Nat} {t:List T} (hm:m≤5) (h:tmOk m t=true):call lf n_impl_startOf [.i m,.sl 0 (t.map e2)]=some (pD m t (non m),[]):=by
 have C:=c_impl_trueStates h
 unfold pD pv
 rw [aN_non,lfW_non m hm]
 rw [call_k lf n_impl_startOf _ (F:=F_impl_startOf) rfl rfl]
 simp [F_impl_startOf,C]
end
section
attribute [-simp] DV.cells
attribute [local simp] sliceD cells_st cells_sl cells_i cells_y cells_b cells_s cells_w
attribute [local simp] lend_e3 adopt_e3 new_e3 al_e3 lt_e3
def e4 (m:Nat) (t:List T):Option (List Int)→DV
 | some ks=>pD m t ks
 | none=>pv 0 0 (0#32) (0#32)
end
section
attribute [-simp] DV.cells
attribute [local simp] sliceD cells_st cells_sl cells_i cells_y cells_b cells_s cells_w
attribute [local simp] lend_e3 adopt_e3 new_e3 al_e3 lt_e3
structure Fin (m:Nat) (t:List T) (P:List C3) (L:LT) (pts:Pts):Prop where
 inv:Inv m t P P.length pts
 start:go3 m t P.length pts (-1) (rot P) (non m)
end
section
def kp:List T→List Int→Int
 | t :: r,k :: ks=>(if k=-1 then 1 else if k=1 then t.2 else 6 - t.2) * kp r ks
 | _,_=>1
end
section
attribute [-simp] DV.cells
attribute [local simp] sliceD cells_st cells_sl cells_i cells_y cells_b cells_s cells_w
theorem c_impl_rowOk (row:Int):call lf n_impl_rowOk [.i row]=some (.b (rwOk row),[]):=by
 rw [call_k lf n_impl_rowOk _ (F:=F_impl_rowOk) rfl rfl]
 have e:rwOk row=(row == 0 || row == 1):=by
  unfold rwOk
  by_cases h0:row=0
  ·subst h0; rfl
  ·by_cases h1:row=1
   ·subst h1; rfl
   ·have n0:(row == 0)=false:=beq_eq_false_iff_ne.2 h0
    have n1:(row == 1)=false:=beq_eq_false_iff_ne.2 h1
    rw [n0,n1]
    exact decide_eq_false (by omega)
 rw [e]
 cases h0:(row == 0) with
 | true=>simp [F_impl_rowOk,h0]
 | false=>simp [F_impl_rowOk,h0]
theorem c_impl_endChance (c q row:Int) (hq:1≤q∧q≤5):call lf n_impl_endChance [.st [.i c,.i q],.i row]=some (.i (if row=0 then 6 - q else q),[]):=by
 have w1:wr (6 - q)=6 - q:=wr_id (by omega) (by omega)
 rw [call_k lf n_impl_endChance _ (F:=F_impl_endChance) rfl rfl]
 by_cases h:row=0
 ·simp [F_impl_endChance,h,w1]
 ·have h':(row == 0)=false:=by simp [h]
  simp [F_impl_endChance,h,h']
theorem c_impl_wholeOf {n:Nat} (hn:n≤5):call lf n_impl_wholeOf [.i n]=some (.i (6 ^ n),[]):=by
 rw [call_k lf n_impl_wholeOf _ (F:=F_impl_wholeOf) rfl rfl]
 have L:=loop_count (lf:=lf) (L:=F_impl_wholeOf_L0) n (fun i=>⟨[(3,.i (6 ^ i)),(4,.i n),(5,.i i)],[]⟩) (x:=.exit 0) (R:=⟨[(3,.i (6 ^ n)),(4,.i n),(5,.i n)],[]⟩) (fun i hi=>by
  have p:=p6 (n:=i) (by omega)
  have w1:wr ((i:Int)+1)=i+1:=wr_id (by omega) (by omega)
  have w2:wr ((6:Int) ^ i * 6)=6 ^ i * 6:=wr_id (by omega) (by omega)
  simp [F_impl_wholeOf_L0,hi,w1,w2,Int.pow_succ]) (by simp [F_impl_wholeOf_L0]) (by simp)
 have L':ex lf F_impl_wholeOf_W0 ⟨[(3,.i 1),(4,.i n),(5,.i 0)],[]⟩=some (.exit 0,⟨[(3,.i (6 ^ n)),(4,.i n),(5,.i n)],[]⟩):=L
 simp [F_impl_wholeOf,L']
set_option maxHeartbeats 4000000 in
theorem eA_calli {us:List T} (h:us.all tOk=true) {row a:Int} (h0:0≤a) (h1:a < us.length):∃ c q:Int,atI (us.map e2) a=some (.st [.i c,.i q])∧c=cA us a.toNat∧call lf n_impl_endChance [.st [.i c,.i q],.i row]=some (.i (eA us row a.toNat),[]):=by
 obtain ⟨c,q,c1,c2,c3⟩:=cA_at (us:=us) h0 h1
 refine ⟨c,q,c1,c2,?_⟩
 have e:us.getD a.toNat (0,0)=us[a.toNat]:=by simp [List.getD,show a.toNat < us.length by omega]
 have tq:=tOk_iff.1 (List.all_eq_true.1 h us[a.toNat] (List.getElem_mem (by omega)))
 rw [← e,c3] at tq
 rw [c_impl_endChance c q row tq.2]
 unfold eA
 rw [c3]
set_option maxHeartbeats 4000000 in
theorem l_impl_RowAverage {us:List T} (h:tsOk us=true) (row:Int) (os:List Int) (ho5:os.length≤5) (rest:List Int):∀ (k:Nat) (on sum:Int) (so:Nat),orS us.length so rest=true→0≤on→on≤6 ^ k→0≤sum→sum≤70000 * k→k+rest.length=os.length→(os.map DV.i).drop k=rest.map .i →
  ∃ on':Int,ex lf F_impl_RowAverage_W0 ⟨[(0,.sl 0 (us.map e2)),(2,.i row),(8,.i sum),(9,.i (on * 6 ^ rest.length)),(30,.sl 0 (os.map .i)),(31,.i os.length),(32,.i k)],[]⟩ =
   some (.exit 0,⟨[(0,.sl 0 (us.map e2)),(2,.i row),(8,.i (sum+rA us row on rest)),(9,.i on'),(30,.sl 0 (os.map .i)),(31,.i os.length),(32,.i os.length)],[]⟩):=by
 have h':=tsOk_iff.1 h
 induction rest with
 | nil =>
  intro k on sum so ho n0 n1 s0 s1 hn hd
  have hk:k=os.length:=by simpa using hn
  refine ⟨on * 6 ^ ([]:List Int).length,?_⟩
  rw [w_impl_RowAverage_0]
  simp [F_impl_RowAverage_L0,hk,rA]
 | cons a rest ih =>
  intro k on sum so ho n0 n1 s0 s1 hn hd
  obtain ⟨o1,o2,o3⟩:=orS_cons.1 ho
  have hn2:(k:Int)+((DV.i a :: rest.map DV.i).length:Nat)=os.length:=by simp at hn ⊢; omega
  obtain ⟨q1,q2,q3,q4,q5,q6⟩:=stp (es:=os.map DV.i) (by omega) hn2 (by omega) (by simpa using hd)
  have kl:k < os.length:=by omega
  obtain ⟨c,q,x1,x2,x3⟩:=eA_calli h'.2 (row:=row) o1.1 o1.2
  have cn:=cA_nn h'.2 a.toNat
  have ea:=eA_bd h'.2 (row:=row) (a:=a.toNat) (by omega)
  have hl:rest.length+1=os.length - k:=by simp at hn; omega
  have pb:=p6le (i:=k) (j:=rest.length+1) (by omega) n0 n1
  have pk:=p6 (n:=k) (by omega)
  have pr:=p6 (n:=rest.length) (by omega)
  have m2:0≤c * (on * 6 ^ (rest.length+1))∧c * (on * 6 ^ (rest.length+1))≤9 * 7776:=by
   exact ⟨Int.mul_nonneg (by omega) pb.1,Int.mul_le_mul (by omega) pb.2 pb.1 (by omega)⟩
  have w3:wr (c * (on * 6 ^ (rest.length+1)))=c * (on * 6 ^ (rest.length+1)):=wr_id (by omega) (by omega)
  have w4:wr (sum+c * (on * 6 ^ (rest.length+1)))=sum+c * (on * 6 ^ (rest.length+1)):=wr_id (by omega) (by omega)
  have w5:wr (6 - eA us row a.toNat)=6 - eA us row a.toNat:=wr_id (by omega) (by omega)
  have dv:(on * 6 ^ (rest.length+1)).tdiv 6=on * 6 ^ rest.length:=by
   rw [Int.pow_succ,← Int.mul_assoc]
   exact Int.mul_tdiv_cancel _ (by omega)
  have pb0:0≤on * 6 ^ rest.length∧on * 6 ^ rest.length≤7776:=p6le (i:=k) (j:=rest.length) (by omega) n0 n1
  have w7:wr (on * 6 ^ rest.length)=on * 6 ^ rest.length:=wr_id (by omega) (by omega)
  have m3:0≤on * (6 - eA us row a.toNat)∧on * (6 - eA us row a.toNat)≤6 ^ (k+1):=by
   refine ⟨Int.mul_nonneg n0 (by omega),?_⟩
   rw [Int.pow_succ]
   exact Int.mul_le_mul n1 (by omega) (by omega) (by omega)
  have m4:0≤on * 6 ^ rest.length * (6 - eA us row a.toNat)∧on * 6 ^ rest.length * (6 - eA us row a.toNat)≤7776 * 6 :=
   ⟨Int.mul_nonneg pb0.1 (by omega),Int.mul_le_mul pb0.2 (by omega) (by omega) (by omega)⟩
  have w8:wr (on * 6 ^ rest.length * (6 - eA us row a.toNat))=on * (6 - eA us row a.toNat) * 6 ^ rest.length:=by
   rw [wr_id (by omega) (by omega),Int.mul_assoc,Int.mul_assoc,Int.mul_comm (6 ^ rest.length)]
  have e:sum+rA us row on (a :: rest)=sum+c * (on * 6 ^ (rest.length+1))+rA us row (on * (6 - eA us row a.toNat)) rest:=by simp only [rA,x2,Int.mul_assoc]; omega
  obtain ⟨on',I⟩:=ih (k+1) (on * (6 - eA us row a.toNat)) (sum+c * (on * 6 ^ (rest.length+1))) _ o3 m3.1 m3.2 (by omega) (by omega) (by simp at hn; omega) (by simpa using q6)
  refine ⟨on',?_⟩
  have q3':wr ((k:Int)+1)=((k+1:Nat):Int):=by rw [q3]; omega
  have o11:=o1.1
  have o12:=o1.2
  rw [w_impl_RowAverage_0,e]
  simp only [List.length_cons] at *
  generalize on * (6 - eA us row a.toNat) * 6 ^ rest.length=G at *
  generalize on * 6 ^ (rest.length+1)=P at *
  generalize on * 6 ^ rest.length=Q at *
  generalize rA us row _ rest=Z at *
  generalize eA us row a.toNat=E at *
  simp [F_impl_RowAverage_L0,kl,q1,q2,q3',o11,o12,x1,x3,w3,w4,w5,dv,w7,w8,I,-Int.natCast_add]
theorem c_impl_RowAverage (us:List T) (os:List Int) (row:Int) (ha:(us.length:Int) < 1099511627776) (hc:(os.length:Int) < 1099511627776) :
  call lf n_impl_RowAverage [.sl 0 (us.map e2),.sl 0 (os.map .i),.i row]=some (.i (raOf us os row),[]):=by
 rw [call_k lf n_impl_RowAverage _ (F:=F_impl_RowAverage) rfl rfl]
 have C1:=c_impl_TestsOk us ha
 have C3:=c_impl_OrderOk us.length os hc
 have C4:=c_impl_rowOk row
 unfold raOf raOk
 cases h1:tsOk us with
 | false=>rw [h1] at C1; simp [F_impl_RowAverage,C1]
 | true =>
  rw [h1] at C1
  cases h3:orOk us.length os with
  | false=>rw [h3] at C3; simp [F_impl_RowAverage,C1,C3]
  | true =>
   rw [h3] at C3
   cases h4:rwOk row with
   | false =>
    rw [h4] at C4
    simp [F_impl_RowAverage,C1,C3,C4]
   | true =>
    rw [h4] at C4
    obtain ⟨g1,g2,g3⟩:=orOk_iff.1 h3
    have W:=c_impl_wholeOf (n:=us.length) (by omega)
    obtain ⟨on',L⟩:=l_impl_RowAverage h1 row os (by omega) os 0 1 0 0 g3 (by omega) (by omega) (by omega) (by omega) (by omega) (by simp)
    have el:os.length=us.length:=by omega
    simp only [Int.natCast_zero,Int.zero_add,Int.one_mul,el] at L
    simp [F_impl_RowAverage,C1,C3,C4,W,el,L]
end
section
attribute [-simp] DV.cells
attribute [local simp] sliceD cells_st cells_sl cells_i cells_y cells_b cells_s cells_w
attribute [local simp] lend_e3 adopt_e3 new_e3 al_e3 lt_e3
def rw3 (A B C:List DV):List DV:=[.sl 0 A,.sl 0 B,.sl 0 C]
def stC0 (X:List DV) (s:Int) (i:Nat):LS:=⟨[(0,.sl 0 X),(3,.i s),(9,.sl 0 X),(10,.i 3),(11,.i i)],[]⟩
def stC1 (X acc:List DV) (i:Nat):LS:=⟨[(6,.own 12312 acc.length 0 acc.length),(25,.sl 0 X),(26,.i 3),(27,.i i)],[(12312,acc)]⟩
theorem cc_step0 {X es:List DV} {i:Nat} {s:Int} (h:atI X (i:Int)=some (.sl 0 es)) (hi:i < 3) (h0:0≤s) (hb:s+es.length≤1000000) :
  ex lf F_slices_Concat_impl_Choice_impl_Choice_L0 (stC0 X s i)=some (.normal,stC0 X (s+es.length) (i+1)):=by
 have w1:wr ((i:Int)+1)=((i+1:Nat):Int):=by rw [wr_id (by omega) (by omega)]; omega
 have w2:wr (s+(es.length:Int))=s+es.length:=wr_id (by omega) (by omega)
 have hi':(i:Int) < 3:=by omega
 have ng:¬ s+(es.length:Int) < 0:=by omega
 unfold stC0
 simp [F_slices_Concat_impl_Choice_impl_Choice_L0,hi',h,w1,w2,ng,-Int.natCast_add]
theorem cc_step1 {X es acc:List DV} {i:Nat} (h:atI X (i:Int)=some (.sl 0 es)) (hi:i < 3) (hb:acc.length+es.length≤1000000) (hc:∀ e∈es,e.cells.length=3) :
  ex lf F_slices_Concat_impl_Choice_impl_Choice_L1 (stC1 X acc i)=some (.normal,stC1 X (acc++es) (i+1)):=by
 have w1:wr ((i:Int)+1)=((i+1:Nat):Int):=by rw [wr_id (by omega) (by omega)]; omega
 have hi':(i:Int) < 3:=by omega
 have lb:acc.length+es.length≤bound:=by unfold bound; omega
 unfold stC1
 rw [List.length_append]
 simp [F_slices_Concat_impl_Choice_impl_Choice_L1,hi',h,w1,lb,if_pos hc,-Int.natCast_add]
set_option maxHeartbeats 4000000 in
theorem c_Concat {A B C:List DV} (hA:0 < A.length) (hl:A.length+B.length+C.length≤1000000) (cA:∀ e∈A,e.cells.length=3) (cB:∀ e∈B,e.cells.length=3) (cC:∀ e∈C,e.cells.length=3) :
  call lf n_slices_Concat_impl_Choice_impl_Choice [.sl 0 [.sl 0 A,.sl 0 B,.sl 0 C]]=some (.fr 3 (A++B++C),[]):=by
 have a0:atI (rw3 A B C) ((0:Nat):Int)=some (.sl 0 A):=rfl
 have a1:atI (rw3 A B C) ((1:Nat):Int)=some (.sl 0 B):=rfl
 have a2:atI (rw3 A B C) ((2:Nat):Int)=some (.sl 0 C):=rfl
 have L0:ex lf F_slices_Concat_impl_Choice_impl_Choice_W0 (stC0 (rw3 A B C) 0 0)=some (.exit 0,stC0 (rw3 A B C) ((A.length:Int)+B.length+C.length) 3):=by
  rw [w_slices_Concat_impl_Choice_impl_Choice_0,cc_step0 a0 (by omega) (by omega) (by omega)]
  simp only
  rw [w_slices_Concat_impl_Choice_impl_Choice_0,cc_step0 a1 (by omega) (by omega) (by omega)]
  simp only
  rw [w_slices_Concat_impl_Choice_impl_Choice_0,cc_step0 a2 (by omega) (by omega) (by omega)]
  simp only
  rw [w_slices_Concat_impl_Choice_impl_Choice_0,Int.zero_add]
  unfold stC0
  generalize rw3 A B C=X
  simp [F_slices_Concat_impl_Choice_impl_Choice_L0]
 have L1:ex lf F_slices_Concat_impl_Choice_impl_Choice_W1 (stC1 (rw3 A B C) [] 0)=some (.exit 2,stC1 (rw3 A B C) (A++B++C) 3):=by
  rw [w_slices_Concat_impl_Choice_impl_Choice_1,cc_step1 a0 (by omega) (by simp; omega) cA]
  simp only
  rw [w_slices_Concat_impl_Choice_impl_Choice_1,cc_step1 a1 (by omega) (by simp; omega) cB]
  simp only
  rw [w_slices_Concat_impl_Choice_impl_Choice_1,cc_step1 a2 (by omega) (by simp; omega) cC]
  simp only
  rw [w_slices_Concat_impl_Choice_impl_Choice_1,List.nil_append]
  unfold stC1
  generalize rw3 A B C=X
  simp [F_slices_Concat_impl_Choice_impl_Choice_L1]
 have G:call lf n_slices_Grow_impl_Choice_impl_Choice [.nil,.i ((A.length:Int)+B.length+C.length)]=some (.fr 3 [],[]):=by
  rw [call_prim lf n_slices_Grow_impl_Choice_impl_Choice _ (F:=F_slices_Grow_impl_Choice_impl_Choice) rfl rfl,grow_k,if_pos]
  unfold bound
  omega
 have rl:(rw3 A B C).length=3:=rfl
 show call lf n_slices_Concat_impl_Choice_impl_Choice [.sl 0 (rw3 A B C)]=_
 rw [call_k lf n_slices_Concat_impl_Choice_impl_Choice _ (F:=F_slices_Concat_impl_Choice_impl_Choice) rfl rfl]
 unfold stC0 at L0
 unfold stC1 at L1
 simp only [Int.natCast_zero,List.length_nil] at L0 L1
 generalize rw3 A B C=X at *
 generalize (A.length:Int)+B.length+C.length=n at *
 generalize A++B++C=Y at *
 simp [F_slices_Concat_impl_Choice_impl_Choice,L0,L1,G,rl]
def lay3 (k place:Nat) (N Y:List C3):List C3:=((k:Int),(if N=[] then -1 else (place:Int)+1),(if Y=[] then -1 else (place:Int)+1+N.length)) :: (N++Y)
theorem lay_ser (k place:Nat) (n y:PT):lay3 k place (ser n (place+1)) (ser y (place+1+n.size))=ser (.ask k n y) place:=by
 unfold lay3
 simp only [ser]
 congr 2
 ·congr 1
  ·cases n with
   | stop=>simp [ser,rt]
   | ask a b c=>simp [ser,rt]
  ·cases y with
   | stop=>simp [ser,rt]
   | ask a b c=>simp [ser,rt,ser_len]
theorem cells_e3 (P:List C3):∀ e∈P.map e3,e.cells.length=3:=fun e he=>by
 obtain ⟨x,_,rfl⟩:=List.mem_map.1 he
 rfl
set_option maxHeartbeats 8000000 in
theorem c_impl_laidOut (a:Int) {place:Nat} {N Y:List C3} (hb:place+1+N.length+Y.length≤1000) :
  call lf n_impl_laidOut [.i a,.i place,.sl 0 (N.map e3),.sl 0 (Y.map e3)]=some (.fr 3 ([.st [.i a,.i (if N=[] then -1 else ((place+1:Nat):Int)),.i (if Y=[] then -1 else ((place+1+N.length:Nat):Int))]]++N.map e3++Y.map e3),[]):=by
 have w1:wr ((place:Int)+1)=((place+1:Nat):Int):=by rw [wr_id (by omega) (by omega)]; omega
 have w2:wr (((place+1:Nat):Int)+(N.length:Int))=((place+1+N.length:Nat):Int):=by rw [wr_id (by omega) (by omega)]; omega
 have cN:=cells_e3 N
 have cY:=cells_e3 Y
 have lN:(N.map e3).length=N.length:=by simp
 have lY:(Y.map e3).length=Y.length:=by simp
 have eN:=lend_e3 N
 have eY:=lend_e3 Y
 have aN':=fun x=>adopt_e3 x N
 have aY':=fun x=>adopt_e3 x Y
 have nN:=new_e3 N
 have nY:=new_e3 Y
 have CC:=fun (b c:Int)=>c_Concat (A:=[.st [.i a,.i b,.i c]]) (B:=N.map e3) (C:=Y.map e3) (by simp) (by simp; omega) (fun e he=>by
  have:e=.st [.i a,.i b,.i c]:=by simpa using he
  rw [this]; rfl) cN cY
 rw [call_k lf n_impl_laidOut _ (F:=F_impl_laidOut) rfl rfl]
 have gN:0 < N.length↔N≠[]:=List.length_pos_iff
 have gY:0 < Y.length↔Y≠[]:=List.length_pos_iff
 by_cases hN:N=[]
 ·have pN:¬ 0 < N.length:=fun h=>gN.1 h hN
  rw [if_pos hN]
  by_cases hY:Y=[]
  ·have pY:¬ 0 < Y.length:=fun h=>gY.1 h hY
   rw [if_pos hY]
   clear hN hY gN gY
   generalize N.map e3=M at *
   generalize Y.map e3=Q at *
   generalize N.length=n at *
   generalize Y.length=y at *
   simp [F_impl_laidOut,w1,w2,pN,pY,CC,lN,lY,eN,eY,aN',aY',nN,nY,if_pos cN,if_pos cY,-Int.natCast_add]
  ·have pY:0 < Y.length:=gY.2 hY
   rw [if_neg hY]
   clear hN hY gN gY
   generalize N.map e3=M at *
   generalize Y.map e3=Q at *
   generalize N.length=n at *
   generalize Y.length=y at *
   simp [F_impl_laidOut,w1,w2,pN,pY,CC,lN,lY,eN,eY,aN',aY',nN,nY,if_pos cN,if_pos cY,-Int.natCast_add]
 ·have pN:0 < N.length:=gN.2 hN
  rw [if_neg hN]
  by_cases hY:Y=[]
  ·have pY:¬ 0 < Y.length:=fun h=>gY.1 h hY
   rw [if_pos hY]
   clear hN hY gN gY
   generalize N.map e3=M at *
   generalize Y.map e3=Q at *
   generalize N.length=n at *
   generalize Y.length=y at *
   simp [F_impl_laidOut,w1,w2,pN,pY,CC,lN,lY,eN,eY,aN',aY',nN,nY,if_pos cN,if_pos cY,-Int.natCast_add]
  ·have pY:0 < Y.length:=gY.2 hY
   rw [if_neg hY]
   clear hN hY gN gY
   generalize N.map e3=M at *
   generalize Y.map e3=Q at *
   generalize N.length=n at *
   generalize Y.length=y at *
   simp [F_impl_laidOut,w1,w2,pN,pY,CC,lN,lY,eN,eY,aN',aY',nN,nY,if_pos cN,if_pos cY,-Int.natCast_add]
end
section
abbrev I3:=Int×Int×Int
def gM:List I3→Int
 | []=>1
 | x :: r=>x.2.2 * gM r
def gD:List I3→Int
 | []=>0
 | x :: r=>x.1 * gM r+(x.2.2 - x.2.1) * gD r
def iOk (x:I3):Prop:=0≤x.1∧0 < x.2.1∧x.2.1≤x.2.2
def gLe (a b:I3):Bool:=decide (a.1 * b.2.1≤b.1 * a.2.1)
theorem gM_pos:∀ {l:List I3},(∀ x∈l,iOk x)→0 < gM l
 | [],_=>by simp [gM]
 | x :: r,h=>by
  have hx:=h x List.mem_cons_self
  have:=gM_pos (l:=r) (fun y hy=>h y (List.mem_cons_of_mem _ hy))
  exact Int.mul_pos (by unfold iOk at hx; omega) this
theorem gM_perm {p q:List I3} (h:p.Perm q):gM p=gM q:=by
 induction h with
 | nil=>rfl
 | cons x _ ih=>simp only [gM]; rw [ih]
 | swap x y l=>simp only [gM]; rw [Int.mul_left_comm]
 | trans _ _ a b=>exact a.trans b
theorem gD_nn:∀ {l:List I3},(∀ x∈l,iOk x)→0≤gD l
 | [],_=>by simp [gD]
 | x :: r,h=>by
  obtain ⟨h1,h2,h3⟩:=h x List.mem_cons_self
  have hr:∀ y∈r,iOk y:=fun y hy=>h y (List.mem_cons_of_mem _ hy)
  have a:=Int.mul_nonneg h1 (Int.le_of_lt (gM_pos hr))
  have b:=Int.mul_nonneg (show 0≤x.2.2 - x.2.1 by omega) (gD_nn hr)
  simp only [gD]
  omega
theorem gD_swap (x y:I3) (r:List I3):gD (x :: y :: r)+y.1 * x.2.1 * gM r=gD (y :: x :: r)+x.1 * y.2.1 * gM r:=by
 simp only [gD,gM]
 grind
theorem gLe_trans {a b c:I3} (ha:iOk a) (hb:iOk b) (hc:iOk c) (h1:gLe a b=true) (h2:gLe b c=true):gLe a c=true:=by
 unfold gLe at *
 rw [decide_eq_true_eq] at *
 refine Int.le_of_mul_le_mul_right (a:=b.2.1) ?_ hb.2.1
 have q1:=Int.mul_le_mul_of_nonneg_right h1 (show 0≤c.2.1 from Int.le_of_lt hc.2.1)
 have q2:=Int.mul_le_mul_of_nonneg_right h2 (show 0≤a.2.1 from Int.le_of_lt ha.2.1)
 grind
theorem gLe_total {a b:I3} (h:gLe a b=false):gLe b a=true:=by
 unfold gLe at *
 rw [decide_eq_true_eq]
 rw [decide_eq_false_iff_not] at h
 omega
def insI (x:I3):List I3→List I3
 | []=>[x]
 | o :: r=>if gLe o x=true then o :: insI x r else x :: o :: r
def srtI:List I3→List I3
 | []=>[]
 | x :: r=>insI x (srtI r)
theorem insI_perm (x:I3):∀ l:List I3,(insI x l).Perm (x :: l)
 | []=>List.Perm.refl _
 | o :: r=>by
  simp only [insI]
  split
  ·exact ((insI_perm x r).cons o).trans (List.Perm.swap x o r)
  ·exact List.Perm.refl _
theorem srtI_perm:∀ l:List I3,(srtI l).Perm l
 | []=>List.Perm.refl _
 | x :: r=>(insI_perm x (srtI r)).trans ((srtI_perm r).cons x)
theorem insI_sorted {x:I3} (hx:iOk x):∀ {l:List I3},(∀ o∈l,iOk o)→l.Pairwise (fun a b=>gLe a b=true)→(insI x l).Pairwise (fun a b=>gLe a b=true)
 | [],_,_=>List.pairwise_singleton _ _
 | o :: r,hm,hp=>by
  obtain ⟨p1,p2⟩:=List.pairwise_cons.1 hp
  have ho:=hm o List.mem_cons_self
  have hr:∀ y∈r,iOk y:=fun y hy=>hm y (List.mem_cons_of_mem _ hy)
  simp only [insI]
  by_cases hc:gLe o x=true
  ·rw [if_pos hc]
   refine List.pairwise_cons.2 ⟨fun y hy=>?_,insI_sorted hx hr p2⟩
   rcases List.mem_cons.1 ((insI_perm x r).mem_iff.1 hy) with rfl | hy
   ·exact hc
   ·exact p1 y hy
  ·rw [if_neg hc]
   have hc':gLe x o=true:=gLe_total (by simpa using hc)
   refine List.pairwise_cons.2 ⟨fun y hy=>?_,hp⟩
   rcases List.mem_cons.1 hy with rfl | hy
   ·exact hc'
   ·exact gLe_trans hx ho (hr y hy) hc' (p1 y hy)
theorem srtI_sorted:∀ {l:List I3},(∀ x∈l,iOk x)→(srtI l).Pairwise (fun a b=>gLe a b=true)
 | [],_=>List.Pairwise.nil
 | x :: r,h=>insI_sorted (h x List.mem_cons_self) (fun o ho=>h o (List.mem_cons_of_mem _ ((srtI_perm r).mem_iff.1 ho))) (srtI_sorted fun y hy=>h y (List.mem_cons_of_mem _ hy))
theorem gD_front {a:I3} (ha:iOk a):∀ (p q:List I3),(∀ x∈p,iOk x)→(∀ x∈q,iOk x)→(∀ x∈p,gLe a x=true)→gD (a :: (p++q))≤gD (p++a :: q)
 | [],q,_,_,_=>Int.le_refl _
 | x :: p,q,hp,hq,hl=>by
  have s:=gD_swap a x (p++q)
  have hx:=hp x List.mem_cons_self
  have hp':∀ y∈p,iOk y:=fun y hy=>hp y (List.mem_cons_of_mem _ hy)
  have l0:=hl x List.mem_cons_self
  unfold gLe at l0
  rw [decide_eq_true_eq] at l0
  have f:=gD_front ha p q hp' hq (fun y hy=>hl y (List.mem_cons_of_mem _ hy))
  have gm:gM (p++a :: q)=gM (a :: (p++q)):=gM_perm List.perm_middle
  have mp:0 < gM (p++q):=gM_pos fun y hy=>(List.mem_append.1 hy).elim (hp' y) (hq y)
  have k1:=Int.mul_le_mul_of_nonneg_right l0 (Int.le_of_lt mp)
  have k2:=Int.mul_le_mul_of_nonneg_left f (show 0≤x.2.2 - x.2.1 by unfold iOk at hx; omega)
  have e1:gD (x :: a :: (p++q))=x.1 * gM (a :: (p++q))+(x.2.2 - x.2.1) * gD (a :: (p++q)):=rfl
  have e2:gD (x :: (p++a :: q))=x.1 * gM (p++a :: q)+(x.2.2 - x.2.1) * gD (p++a :: q):=rfl
  rw [gm] at e2
  show gD (a :: x :: (p++q))≤gD (x :: (p++a :: q))
  omega
theorem gD_least:∀ {l p:List I3},(∀ x∈l,iOk x)→l.Pairwise (fun a b=>gLe a b=true)→p.Perm l→gD l≤gD p
 | [],p,_,_,hp=>by rw [hp.eq_nil]; exact Int.le_refl _
 | a :: l,p,hm,hs,hp=>by
  obtain ⟨p1,p2,rfl⟩:=List.append_of_mem (hp.mem_iff.2 List.mem_cons_self)
  have hpp:(p1++p2).Perm l:=(List.perm_cons a).1 (List.perm_middle.symm.trans hp)
  obtain ⟨s1,s2⟩:=List.pairwise_cons.1 hs
  have ha:=hm a List.mem_cons_self
  have hl:∀ x∈l,iOk x:=fun x hx=>hm x (List.mem_cons_of_mem _ hx)
  have hm1:∀ x∈p1,x∈l:=fun x hx=>hpp.mem_iff.1 (List.mem_append_left _ hx)
  have hm2:∀ x∈p2,x∈l:=fun x hx=>hpp.mem_iff.1 (List.mem_append_right _ hx)
  have f:=gD_front ha p1 p2 (fun x hx=>hl x (hm1 x hx)) (fun x hx=>hl x (hm2 x hx)) (fun x hx=>s1 x (hm1 x hx))
  have i:=gD_least (l:=l) (p:=p1++p2) hl s2 hpp
  have e1:gD (a :: l)=a.1 * gM l+(a.2.2 - a.2.1) * gD l:=rfl
  have e2:gD (a :: (p1++p2))=a.1 * gM (p1++p2)+(a.2.2 - a.2.1) * gD (p1++p2):=rfl
  rw [gM_perm hpp] at e2
  have k:=Int.mul_le_mul_of_nonneg_left i (show 0≤a.2.2 - a.2.1 by unfold iOk at ha; omega)
  omega
def gB (l:List I3):Int:=gD (srtI l)
theorem gB_le {l p:List I3} (h:∀ x∈l,iOk x) (hp:p.Perm l):gB l≤gD p :=
 gD_least (fun x hx=>h x ((srtI_perm l).mem_iff.1 hx)) (srtI_sorted h) (hp.trans (srtI_perm l).symm)
theorem gB_sorted {l p:List I3} (h:∀ x∈l,iOk x) (hp:p.Perm l) (hs:p.Pairwise (fun a b=>gLe a b=true)):gB l=gD p:=by
 have a:=gB_le h hp
 have b:=gD_least (l:=p) (p:=srtI l) (fun x hx=>h x (hp.mem_iff.1 hx)) hs ((srtI_perm l).trans hp.symm)
 unfold gB at *
 omega
theorem gB_nn {l:List I3} (h:∀ x∈l,iOk x):0≤gB l:=gD_nn fun x hx=>h x ((srtI_perm l).mem_iff.1 hx)
theorem gB_perm {l p:List I3} (h:∀ x∈l,iOk x) (hp:p.Perm l):gB p=gB l:=by
 have hp':∀ x∈p,iOk x:=fun x hx=>h x (hp.mem_iff.1 hx)
 exact (gB_sorted h ((srtI_perm p).trans hp) (srtI_sorted hp')).symm
theorem gB_zero {l:List I3} (h:∀ x∈l,iOk x) {x:I3} (hx:x∈l) (h1:x.1=0) (h2:x.2.1=x.2.2):gB l=0:=by
 obtain ⟨A,B,rfl⟩:=List.append_of_mem hx
 have a:=gB_nn h
 have b:=gB_le h (p:=x :: (A++B)) List.perm_middle.symm
 simp only [gD] at b
 rw [h1,h2] at b
 simp at b
 omega
end
section
def pA (us:List T) (k:Nat):Int:=(us.getD k (0,0)).2
def itT (us:List T) (k:Nat):I3:=(6 * cA us k,pA us k,6)
def grC (us:List T) (l:List Nat):Int:=gB (l.map (itT us))
def grN (us:List T):List Nat→Int
 | []=>1
 | k :: r=>(6 - pA us k) * grN us r
def gI (us:List T) (l:List Nat):I3:=(grC us l,grN us l,6 ^ l.length)
theorem pA_bd {us:List T} (h:us.all tOk=true) {k:Nat} (hk:k < us.length):1≤pA us k∧pA us k≤5:=by
 unfold pA
 have e:us.getD k (0,0)=us[k]:=by simp [List.getD,hk]
 rw [e]
 have:=tOk_iff.1 (List.all_eq_true.1 h us[k] (List.getElem_mem hk))
 omega
theorem itT_ok {us:List T} (h:us.all tOk=true) {k:Nat} (hk:k < us.length):iOk (itT us k):=by
 have a:=pA_bd h hk
 have b:=cA_nn h k
 refine ⟨?_,?_,?_⟩ <;> simp only [itT] <;> omega
theorem its_ok {us:List T} (h:us.all tOk=true) {l:List Nat} (hl:∀ k∈l,k < us.length):∀ x∈l.map (itT us),iOk x:=fun x hx=>by
 obtain ⟨k,hk,rfl⟩:=List.mem_map.1 hx
 exact itT_ok h (hl k hk)
theorem its_M (us:List T):∀ l:List Nat,gM (l.map (itT us))=6 ^ l.length
 | []=>rfl
 | k :: r=>by
  simp only [List.map_cons,gM,List.length_cons]
  rw [its_M us r,Int.pow_succ,Int.mul_comm]
  rfl
theorem grN_bd {us:List T} (h:us.all tOk=true):∀ {l:List Nat},(∀ k∈l,k < us.length)→0 < grN us l∧grN us l≤6 ^ l.length
 | [],_=>by simp [grN]
 | k :: r,hl=>by
  obtain ⟨a1,a2⟩:=grN_bd h (l:=r) (fun j hj=>hl j (List.mem_cons_of_mem _ hj))
  have b:=pA_bd h (hl k List.mem_cons_self)
  simp only [grN,List.length_cons]
  refine ⟨Int.mul_pos (by omega) a1,?_⟩
  have k1:=Int.mul_le_mul_of_nonneg_right (show 6 - pA us k≤6 by omega) (Int.le_of_lt a1)
  rw [Int.pow_succ]
  omega
theorem grN_perm {us:List T} {l l':List Nat} (h:l.Perm l'):grN us l=grN us l':=by
 induction h with
 | nil=>rfl
 | cons x _ ih=>simp only [grN]; rw [ih]
 | swap x y l=>simp only [grN]; rw [Int.mul_left_comm]
 | trans _ _ a b=>exact a.trans b
theorem gI_ok {us:List T} (h:us.all tOk=true) {l:List Nat} (hl:∀ k∈l,k < us.length):iOk (gI us l) :=
 ⟨gB_nn (its_ok h hl),(grN_bd h hl).1,(grN_bd h hl).2⟩
theorem grC_perm {us:List T} (h:us.all tOk=true) {l l':List Nat} (hl:∀ k∈l,k < us.length) (hp:l'.Perm l):grC us l'=grC us l :=
 gB_perm (its_ok h hl) (hp.map _)
def gYes (ks:List Int) (g:List Nat):Bool:=g.any fun k=>ks[k]? == some 1
def gRem (ks:List Int) (g:List Nat):List Nat:=g.filter fun k=>ks[k]? == some (-1)
def gRest (us:List T) (ks:List Int):List (List Nat)→List I3
 | []=>[]
 | g :: r=>if gYes ks g then gRest us ks r else gI us (gRem ks g) :: gRest us ks r
theorem gRest_app (us:List T) (ks:List Int):∀ A B:List (List Nat),gRest us ks (A++B)=gRest us ks A++gRest us ks B
 | [],B=>rfl
 | g :: A,B=>by
  simp only [List.cons_append,gRest]
  rw [gRest_app us ks A B]
  split <;> rfl
theorem gRest_ok {us:List T} (h:us.all tOk=true) (ks:List Int):∀ {L:List (List Nat)},(∀ g∈L,∀ k∈g,k < us.length)→∀ x∈gRest us ks L,iOk x
 | [],_,x,hx=>by simp [gRest] at hx
 | g :: r,hL,x,hx=>by
  have hr:∀ g∈r,∀ k∈g,k < us.length:=fun g' hg'=>hL g' (List.mem_cons_of_mem _ hg')
  have ho:=gI_ok h (l:=gRem ks g) (fun k hk=>hL g List.mem_cons_self k (List.mem_filter.1 hk).1)
  simp only [gRest] at hx
  split at hx
  ·exact gRest_ok h ks hr x hx
  ·rcases List.mem_cons.1 hx with rfl | hx
   ·exact ho
   ·exact gRest_ok h ks hr x hx
theorem gYes_mono {ks:List Int} {k:Nat} {v:Int} (hk:ks[k]?=some (-1)) {g:List Nat} (h:gYes ks g=true):gYes (ks.set k v) g=true:=by
 unfold gYes at *
 rw [List.any_eq_true] at *
 obtain ⟨j,h1,h2⟩:=h
 refine ⟨j,h1,?_⟩
 rw [beq_iff_eq] at *
 by_cases e:k=j
 ·subst e
  rw [hk] at h2
  cases h2
 ·rw [List.getElem?_set_ne e]
  exact h2
theorem gYes_yes {ks:List Int} {k:Nat} (hk:ks[k]?=some (-1)) {g:List Nat} (h:k∈g):gYes (ks.set k 1) g=true:=by
 unfold gYes
 rw [List.any_eq_true]
 refine ⟨k,h,?_⟩
 rw [List.getElem?_set_self (List.getElem?_eq_some_iff.1 hk).1,beq_iff_eq]
structure Gok (m:Nat) (L:List (List Nat)):Prop where
 lt:∀ g∈L,∀ k∈g,k < m
 nd:L.flatten.Nodup
 all:∀ k,k < m→k∈L.flatten
 ne:∀ g∈L,g≠[]
def gV (L:List (List Nat)) (s:Nat):Bool:=L.all fun g=>g.any fun k=>s.testBit k
theorem gRest_fcd {us t:List T} (h:us.all tOk=true) {L:List (List Nat)} (hL:∀ g∈L,∀ k∈g,k < us.length) (hv:∀ s,s < 2 ^ us.length→tv t s=gV L s) {ks:List Int} (hl:ks.length=us.length) (hk:ks.all kOk=true) (hf:fcd us.length t ks=true) :
  gB (gRest us ks L)=0:=by
 have ok:=gRest_ok h ks hL
 obtain ⟨b,hb⟩:=(fcd_iff hl hk).1 hf
 by_cases hz:∃ g∈L,gYes ks g=false∧gRem ks g=[]
 ·obtain ⟨g,h1,h2,h3⟩:=hz
  have hm:gI us []∈gRest us ks L:=by
   obtain ⟨A,B,rfl⟩:=List.append_of_mem h1
   rw [gRest_app]
   refine List.mem_append_right _ ?_
   simp only [gRest]
   rw [h2,h3,if_neg (by simp)]
   exact List.mem_cons_self
  exact gB_zero ok hm rfl rfl
 ·have kv:∀ k,k < us.length→ks[k]?=some (-1)∨ks[k]?=some 0∨ks[k]?=some 1:=fun k hk'=>by
   have e:=List.getElem?_eq_getElem (l:=ks) (i:=k) (by omega)
   have:=List.all_eq_true.1 hk ks[k] (List.getElem_mem (by omega))
   unfold kOk at this
   simp only [decide_eq_true_eq] at this
   rw [e]
   simp only [Option.some.injEq]
   omega
  have hz1:∀ g∈L,∃ k∈g,ks[k]?≠some 0:=fun g hg=>by
   cases hy:gYes ks g with
   | true =>
    unfold gYes at hy
    obtain ⟨k,k1,k2⟩:=List.any_eq_true.1 hy
    rw [beq_iff_eq] at k2
    exact ⟨k,k1,by rw [k2]; simp⟩
   | false =>
    have:gRem ks g≠[]:=fun e=>hz ⟨g,hg,hy,e⟩
    obtain ⟨k,hk'⟩:=List.exists_mem_of_ne_nil _ this
    obtain ⟨k1,k2⟩:=List.mem_filter.1 hk'
    rw [beq_iff_eq] at k2
    exact ⟨k,k1,by rw [k2]; simp⟩
  have ag:∀ (d:Bool),agB ks (tabN (fun k=>if ks[k]?=some (-1) then d else ks[k]? == some 1) us.length)=true:=fun d=>by
   rw [agB_iff]
   intro k v hkv
   have hlt:=(List.getElem?_eq_some_iff.1 hkv).1
   rcases kv k (by omega) with q | q | q
   ·left; rw [q] at hkv; exact (Option.some.inj hkv).symm
   ·right
    rw [tabN_bit,decide_eq_true (show k < us.length by omega),q]
    rw [q] at hkv
    rw [← Option.some.inj hkv]
    simp [bI]
   ·right
    rw [tabN_bit,decide_eq_true (show k < us.length by omega),q]
    rw [q] at hkv
    rw [← Option.some.inj hkv]
    simp [bI]
  have v1:gV L (tabN (fun k=>if ks[k]?=some (-1) then true else ks[k]? == some 1) us.length)=true:=by
   unfold gV
   rw [List.all_eq_true]
   intro g hg
   obtain ⟨k,k1,k2⟩:=hz1 g hg
   rw [List.any_eq_true]
   refine ⟨k,k1,?_⟩
   rw [tabN_bit,decide_eq_true (hL g hg k k1)]
   rcases kv k (hL g hg k k1) with q | q | q
   ·simp [q]
   ·exact absurd q k2
   ·simp [q]
  have bt:b=true:=by
   have:=hb _ (tabN_lt _ _) (ag true)
   rw [hv _ (tabN_lt _ _),v1] at this
   exact this.symm
  have v0:gV L (tabN (fun k=>if ks[k]?=some (-1) then false else ks[k]? == some 1) us.length)=true:=by
   have:=hb _ (tabN_lt _ _) (ag false)
   rw [hv _ (tabN_lt _ _)] at this
   rw [this,bt]
  have all1:∀ g∈L,gYes ks g=true:=fun g hg=>by
   unfold gV at v0
   have:=List.all_eq_true.1 v0 g hg
   obtain ⟨k,k1,k2⟩:=List.any_eq_true.1 this
   unfold gYes
   rw [List.any_eq_true]
   refine ⟨k,k1,?_⟩
   rw [tabN_bit,decide_eq_true (hL g hg k k1),Bool.true_and] at k2
   by_cases q:ks[k]?=some (-1)
   ·rw [if_pos q] at k2; cases k2
   ·rw [if_neg q] at k2; exact k2
  have em:∀ L':List (List Nat),(∀ g∈L',gYes ks g=true)→gRest us ks L'=[]:=fun L'=>by
   induction L' with
   | nil=>intro _; rfl
   | cons g r ih =>
    intro hh
    simp only [gRest]
    rw [hh g List.mem_cons_self,if_pos rfl]
    exact ih fun x hx=>hh x (List.mem_cons_of_mem _ hx)
  rw [em L all1]
  rfl
end
section
def gG:List Nat→PT→PT
 | [],_=>.stop
 | k :: r,y=>.ask k (gG r y) y
def gT:List (List Nat)→PT
 | []=>.stop
 | g :: R=>gG g (gT R)
def gIo (us:List T) (l:List Nat):I3:=(gD (l.map (itT us)),grN us l,6 ^ l.length)
theorem gG_cost {us:List T} {y:PT} {M D:Int}:∀ (g:List Nat) (ks:List Int),ks.length=us.length→g.Nodup→(∀ k∈g,ks[k]?=some (-1)) →
  (∀ ks':List Int,ks'.length=us.length→(∀ k:Nat,k∉g→ks'[k]?=ks[k]?)→tA us ks' y * M=wk us ks' * D) →
  tA us ks (gG g y) * (6 ^ g.length * M)=wk us ks * (gD (g.map (itT us)) * M+(6 ^ g.length - grN us g) * D)
 | [],ks,_,_,_,_=>by simp [gG,tA,gD,grN]
 | k :: g,ks,hl,nd,hu,hR=>by
  obtain ⟨n1,n2⟩:=List.nodup_cons.1 nd
  have h1:=hu k List.mem_cons_self
  obtain ⟨w,w1,w2,w3⟩:=wk_put hl h1
  change wk us (ks.set k 0)=w * (6 - pA us k) at w2
  change wk us (ks.set k 1)=w * pA us k at w3
  have i0:=gG_cost (y:=y) (M:=M) (D:=D) g (ks.set k 0) (by simpa using hl) n2 (fun j hj=>by
   rw [List.getElem?_set_ne (show k≠j from fun q=>n1 (by rw [q]; exact hj))]
   exact hu j (List.mem_cons_of_mem _ hj)) (fun ks' hl' hs=>hR ks' hl' fun j hj=>by
    rw [hs j fun q=>hj (List.mem_cons_of_mem _ q),List.getElem?_set_ne (show k≠j from fun q=>hj (by rw [q]; exact List.mem_cons_self))])
  have i1:=hR (ks.set k 1) (by simpa using hl) (fun j hj=>List.getElem?_set_ne (show k≠j from fun q=>hj (by rw [q]; exact List.mem_cons_self)))
  simp only [gG,tA,List.length_cons,List.map_cons,gD,grN]
  rw [its_M,w1]
  rw [w2] at i0
  rw [w3] at i1
  have e1:(itT us k).1=6 * cA us k:=rfl
  have e2:(itT us k).2.2 - (itT us k).2.1=6 - pA us k:=rfl
  rw [e1,e2,Int.pow_succ]
  generalize (6:Int) ^ g.length=X at *
  generalize gD (g.map (itT us))=C at *
  generalize grN us g=N at *
  generalize tA us (ks.set k 0) (gG g y)=t0 at *
  generalize tA us (ks.set k 1) y=t1 at *
  generalize pA us k=p at *
  generalize cA us k=c at *
  grind
theorem gT_cost {us:List T}:∀ (R:List (List Nat)) (ks:List Int),ks.length=us.length→R.flatten.Nodup→(∀ k∈R.flatten,ks[k]?=some (-1)) →
  tA us ks (gT R) * gM (R.map (gIo us))=wk us ks * gD (R.map (gIo us))
 | [],ks,_,_,_=>by simp [gT,tA,gD]
 | g :: R,ks,hl,nd,hu=>by
  rw [List.flatten_cons] at nd hu
  obtain ⟨n1,n2,n3⟩:=List.nodup_append.1 nd
  have:=gG_cost (us:=us) (y:=gT R) (M:=gM (R.map (gIo us))) (D:=gD (R.map (gIo us))) g ks hl n1 (fun k hk=>hu k (List.mem_append_left _ hk)) (fun ks' hl' hs=>gT_cost R ks' hl' n2 fun k hk=>by
   rw [hs k fun q=>n3 k q k hk rfl]
   exact hu k (List.mem_append_right _ hk))
  exact this
theorem gD_pos {l:List I3} (h:∀ x∈l,iOk x) (hp:∀ x∈l,0 < x.1) (hne:l≠[]):0 < gD l:=by
 cases l with
 | nil=>exact absurd rfl hne
 | cons x r =>
  have hr:∀ y∈r,iOk y:=fun y hy=>h y (List.mem_cons_of_mem _ hy)
  have hx:=h x List.mem_cons_self
  have a:=Int.mul_pos (hp x List.mem_cons_self) (gM_pos hr)
  have b:=Int.mul_nonneg (show 0≤x.2.2 - x.2.1 by unfold iOk at hx; omega) (gD_nn hr)
  simp only [gD]
  omega
theorem gB_pos {l:List I3} (h:∀ x∈l,iOk x) (hp:∀ x∈l,0 < x.1) (hne:l≠[]):0 < gB l:=by
 have P:=srtI_perm l
 refine gD_pos (fun x hx=>h x (P.mem_iff.1 hx)) (fun x hx=>hp x (P.mem_iff.1 hx)) fun e=>hne ?_
 rw [e] at P
 exact P.symm.eq_nil
theorem gI_pos {us:List T} (h:us.all tOk=true) {l:List Nat} (hl:∀ k∈l,k < us.length) (hne:l≠[]):0 < (gI us l).1:=by
 refine gB_pos (its_ok h hl) (fun x hx=>?_) (by simpa using hne)
 obtain ⟨k,hk,rfl⟩:=List.mem_map.1 hx
 have:=(cA_nn h k).2.1 (hl k hk)
 show 0 < 6 * cA us k
 omega
theorem gRest_skip {us:List T} {ks:List Int}:∀ {D:List (List Nat)},(∀ g∈D,gYes ks g=true)→gRest us ks D=[]
 | [],_=>rfl
 | g :: r,h=>by
  simp only [gRest]
  rw [h g List.mem_cons_self,if_pos rfl]
  exact gRest_skip fun x hx=>h x (List.mem_cons_of_mem _ hx)
theorem gRest_pos {us:List T} (h:us.all tOk=true) {ks:List Int}:∀ {R:List (List Nat)},(∀ g∈R,∀ k∈g,k < us.length)→(∀ g∈R,gRem ks g≠[])→∀ x∈gRest us ks R,0 < x.1
 | [],_,_,x,hx=>by simp [gRest] at hx
 | g :: r,hl,hn,x,hx=>by
  have ih:=gRest_pos h (ks:=ks) (R:=r) (fun g' hg'=>hl g' (List.mem_cons_of_mem _ hg')) (fun g' hg'=>hn g' (List.mem_cons_of_mem _ hg'))
  simp only [gRest] at hx
  split at hx
  ·exact ih x hx
  ·rcases List.mem_cons.1 hx with rfl | hx
   ·exact gI_pos h (fun k hk=>hl g List.mem_cons_self k (List.mem_filter.1 hk).1) (hn g List.mem_cons_self)
   ·exact ih x hx
end
section
theorem gV_app (A B:List (List Nat)) (s:Nat):gV (A++B) s=(gV A s && gV B s):=by simp [gV]
theorem gT_ok {us t:List T} (h:us.all tOk=true):∀ (R D:List (List Nat)) (ks:List Int),ks.length=us.length→ks.all kOk=true →
  (∀ g∈D++R,∀ k∈g,k < us.length)→(∀ g∈R,g≠[])→(∀ s,s < 2 ^ us.length→tv t s=gV (D++R) s)→(∀ g∈D,gYes ks g=true)→R.flatten.Nodup→(∀ k∈R.flatten,ks[k]?=some (-1)) →
  okT us.length t ks (gT R)
 | [],D,ks,hl,hk,hlt,_,hv,hD,_,_=>by
  rw [List.append_nil] at hv hlt
  refine (fcd_iff hl hk).2 ⟨true,fun s hs ha=>?_⟩
  rw [hv s hs]
  unfold gV
  rw [List.all_eq_true]
  intro g hg
  have hy:=hD g hg
  unfold gYes at hy
  obtain ⟨k,k1,k2⟩:=List.any_eq_true.1 hy
  rw [beq_iff_eq] at k2
  rw [List.any_eq_true]
  refine ⟨k,k1,?_⟩
  have:=(agB_iff.1 ha k 1 k2).resolve_left (by omega)
  cases hb:s.testBit k with
  | true=>rfl
  | false=>rw [hb] at this; simp [bI] at this
 | g0 :: R,D,ks,hl,hk,hlt,hne,hv,hD,nd,hu=>by
  rw [List.flatten_cons] at nd hu
  obtain ⟨n1,n2,n3⟩:=List.nodup_append.1 nd
  have key:∀ (g P:List Nat) (ks:List Int),P++g=g0→ks.length=us.length→ks.all kOk=true→(∀ g∈D,gYes ks g=true)→(∀ k∈P,ks[k]?=some 0)→(∀ k∈g,ks[k]?=some (-1))→(∀ k∈R.flatten,ks[k]?=some (-1)) →
    okT us.length t ks (gG g (gT R)):=by
   intro g
   induction g with
   | nil =>
    intro P ks e hl hk hD hP _ _
    rw [List.append_nil] at e
    subst e
    refine (fcd_iff hl hk).2 ⟨false,fun s hs ha=>?_⟩
    rw [hv s hs,gV_app]
    have:gV (P :: R) s=false:=by
     unfold gV
     rw [List.all_cons,Bool.and_eq_false_iff]
     left
     rw [List.any_eq_false]
     intro k hk'
     have:=(agB_iff.1 ha k 0 (hP k hk')).resolve_left (by omega)
     intro hb
     rw [hb] at this
     simp [bI] at this
    rw [this,Bool.and_false]
   | cons k g ih =>
    intro P ks e hl hk hD hP hg hR
    have h1:=hg k List.mem_cons_self
    have hn:(P++k :: g).Nodup:=by rw [e]; exact n1
    obtain ⟨m1,m2,m3⟩:=List.nodup_append.1 hn
    obtain ⟨m4,m5⟩:=List.nodup_cons.1 m2
    have kg0:k∈g0:=by rw [← e]; exact List.mem_append_right _ List.mem_cons_self
    have kR:k∉R.flatten:=fun q=>n3 k kg0 k q rfl
    have k0:=kOk_set hk k false
    have k1:=kOk_set hk k true
    rw [bI_0] at k0
    rw [bI_1] at k1
    refine ⟨?_,h1,?_,?_⟩
    ·rw [← Bool.not_eq_true]
     intro hf
     have z:=gRest_fcd h hlt hv hl hk hf
     have e0:gRest us ks (D++g0 :: R)=gRest us ks (g0 :: R):=by rw [gRest_app,gRest_skip hD,List.nil_append]
     have y0:gYes ks g0=false:=by
      unfold gYes
      rw [List.any_eq_false]
      intro j hj
      rw [← e] at hj
      rcases List.mem_append.1 hj with q | q
      ·rw [hP j q]; simp
      ·rw [hg j q]; simp
     have lt2:∀ g∈g0 :: R,∀ k∈g,k < us.length:=fun g hg=>hlt g (List.mem_append_right _ hg)
     have p:=gB_pos (gRest_ok h ks lt2) (gRest_pos h lt2 (fun x hx=>by
      rcases List.mem_cons.1 hx with rfl | hx
      ·intro q
       have:k∈gRem ks x:=List.mem_filter.2 ⟨kg0,by rw [h1]; rfl⟩
       rw [q] at this
       cases this
      ·intro q
       obtain ⟨j,hj⟩:=List.exists_mem_of_ne_nil _ (hne x (List.mem_cons_of_mem _ hx))
       have:j∈gRem ks x:=List.mem_filter.2 ⟨hj,by rw [hR j (List.mem_flatten.2 ⟨x,hx,hj⟩)]; rfl⟩
       rw [q] at this
       cases this)) (by
      simp only [gRest]
      rw [y0,if_neg (by simp)]
      simp)
     rw [e0] at z
     omega
    ·refine ih (P++[k]) (ks.set k 0) (by rw [← e]; simp) (by simpa using hl) k0 (fun x hx=>gYes_mono h1 (hD x hx)) (fun j hj=>?_) (fun j hj=>?_) (fun j hj=>?_)
     ·rcases List.mem_append.1 hj with q | q
      ·rw [List.getElem?_set_ne (show k≠j from fun r=>m3 j q k List.mem_cons_self r.symm)]
       exact hP j q
      ·rw [List.mem_singleton.1 q,List.getElem?_set_self (List.getElem?_eq_some_iff.1 h1).1]
     ·rw [List.getElem?_set_ne (show k≠j from fun r=>m4 (by rw [r]; exact hj))]
      exact hg j (List.mem_cons_of_mem _ hj)
     ·rw [List.getElem?_set_ne (show k≠j from fun r=>kR (by rw [r]; exact hj))]
      exact hR j hj
    ·refine gT_ok h R (D++[g0]) (ks.set k 1) (by simpa using hl) k1 (by simpa using hlt) (fun x hx=>hne x (List.mem_cons_of_mem _ hx)) (by simpa using hv) (fun x hx=>?_) n2 (fun j hj=>?_)
     ·rcases List.mem_append.1 hx with q | q
      ·exact gYes_mono h1 (hD x q)
      ·rw [List.mem_singleton.1 q]; exact gYes_yes h1 kg0
     ·rw [List.getElem?_set_ne (show k≠j from fun r=>kR (by rw [r]; exact hj))]
      exact hR j hj
  exact key g0 [] ks rfl hl hk hD (fun k hk=>by cases hk) (fun k hk=>hu k (List.mem_append_left _ hk)) (fun k hk=>hu k (List.mem_append_right _ hk))
def insT (us:List T) (k:Nat):List Nat→List Nat
 | []=>[k]
 | o :: r=>if cA us k * pA us o < cA us o * pA us k∨cA us o * pA us k=cA us k * pA us o∧k < o then k :: o :: r else o :: insT us k r
def inT (us:List T) (l:List Nat):List Nat:=l.foldl (fun a k=>insT us k a) []
def insG (us:List T) (g:List Nat):List (List Nat)→List (List Nat)
 | []=>[g]
 | o :: r=>if (gIo us g).1 * (gIo us o).2.1 < (gIo us o).1 * (gIo us g).2.1 then g :: o :: r else o :: insG us g r
def sG (us:List T) (L:List (List Nat)):List (List Nat):=L.foldl (fun a g=>insG us (inT us g) a) []
theorem insT_perm (us:List T) (k:Nat):∀ l:List Nat,(insT us k l).Perm (k :: l)
 | []=>List.Perm.refl _
 | o :: r=>by
  simp only [insT]
  split
  ·exact List.Perm.refl _
  ·exact ((insT_perm us k r).cons o).trans (List.Perm.swap k o r)
theorem insG_perm (us:List T) (g:List Nat):∀ l:List (List Nat),(insG us g l).Perm (g :: l)
 | []=>List.Perm.refl _
 | o :: r=>by
  simp only [insG]
  split
  ·exact List.Perm.refl _
  ·exact ((insG_perm us g r).cons o).trans (List.Perm.swap g o r)
theorem inT_permA (us:List T):∀ (l a:List Nat),(l.foldl (fun a k=>insT us k a) a).Perm (a++l)
 | [],a=>by simp
 | k :: r,a=>by
  simp only [List.foldl_cons]
  refine (inT_permA us r (insT us k a)).trans ?_
  exact ((insT_perm us k a).append_right r).trans List.perm_middle.symm
theorem inT_perm (us:List T) (l:List Nat):(inT us l).Perm l:=by
 have:=inT_permA us l []
 rw [List.nil_append] at this
 exact this
theorem sG_permA (us:List T):∀ (l a:List (List Nat)),(l.foldl (fun a g=>insG us (inT us g) a) a).Perm (a++l.map (inT us))
 | [],a=>by simp
 | g :: r,a=>by
  simp only [List.foldl_cons,List.map_cons]
  refine (sG_permA us r (insG us (inT us g) a)).trans ?_
  exact ((insG_perm us (inT us g) a).append_right _).trans List.perm_middle.symm
theorem sG_perm (us:List T) (L:List (List Nat)):(sG us L).Perm (L.map (inT us)):=by
 have:=sG_permA us L []
 rw [List.nil_append] at this
 exact this
theorem insT_sorted {us:List T} (h:us.all tOk=true) {k:Nat} (hk:k < us.length):∀ {l:List Nat},(∀ o∈l,o < us.length)→l.Pairwise (fun a b=>gLe (itT us a) (itT us b)=true)→(insT us k l).Pairwise (fun a b=>gLe (itT us a) (itT us b)=true)
 | [],_,_=>List.pairwise_singleton _ _
 | o :: r,hm,hp=>by
  obtain ⟨p1,p2⟩:=List.pairwise_cons.1 hp
  have ho:=hm o List.mem_cons_self
  have hr:∀ y∈r,y < us.length:=fun y hy=>hm y (List.mem_cons_of_mem _ hy)
  simp only [insT]
  split
  ·rename_i hc
   have hc':gLe (itT us k) (itT us o)=true:=by
    unfold gLe itT
    rw [decide_eq_true_eq]
    simp only [Int.mul_assoc]
    omega
   refine List.pairwise_cons.2 ⟨fun y hy=>?_,hp⟩
   rcases List.mem_cons.1 hy with rfl | hy
   ·exact hc'
   ·exact gLe_trans (itT_ok h hk) (itT_ok h ho) (itT_ok h (hr y hy)) hc' (p1 y hy)
  ·rename_i hc
   have hc':gLe (itT us o) (itT us k)=true:=by
    unfold gLe itT
    rw [decide_eq_true_eq]
    simp only [Int.mul_assoc]
    omega
   refine List.pairwise_cons.2 ⟨fun y hy=>?_,insT_sorted h hk hr p2⟩
   rcases List.mem_cons.1 ((insT_perm us k r).mem_iff.1 hy) with rfl | hy
   ·exact hc'
   ·exact p1 y hy
theorem inT_sortedA {us:List T} (h:us.all tOk=true):∀ (l a:List Nat),(∀ k∈l,k < us.length)→(∀ k∈a,k < us.length)→a.Pairwise (fun a b=>gLe (itT us a) (itT us b)=true)→(l.foldl (fun a k=>insT us k a) a).Pairwise (fun a b=>gLe (itT us a) (itT us b)=true)
 | [],a,_,_,hp=>hp
 | k :: r,a,hl,ha,hp=>by
  simp only [List.foldl_cons]
  have hk:=hl k List.mem_cons_self
  refine inT_sortedA h r _ (fun j hj=>hl j (List.mem_cons_of_mem _ hj)) (fun j hj=>?_) (insT_sorted h hk ha hp)
  rcases List.mem_cons.1 ((insT_perm us k a).mem_iff.1 hj) with rfl | q
  ·exact hk
  ·exact ha j q
theorem inT_cost {us:List T} (h:us.all tOk=true) {l:List Nat} (hl:∀ k∈l,k < us.length):gIo us (inT us l)=gI us l:=by
 have P:=inT_perm us l
 have S:=inT_sortedA h l [] hl (fun k hk=>by cases hk) List.Pairwise.nil
 have e:grC us l=gD ((inT us l).map (itT us)):=gB_sorted (its_ok h hl) (P.map _) (List.Pairwise.map _ (fun _ _ q=>q) S)
 unfold gIo gI
 rw [e,grN_perm P,P.length_eq]
theorem insG_sorted {us:List T} {g:List Nat} (hg:iOk (gIo us g)):∀ {l:List (List Nat)},(∀ o∈l,iOk (gIo us o))→l.Pairwise (fun a b=>gLe (gIo us a) (gIo us b)=true)→(insG us g l).Pairwise (fun a b=>gLe (gIo us a) (gIo us b)=true)
 | [],_,_=>List.pairwise_singleton _ _
 | o :: r,hm,hp=>by
  obtain ⟨p1,p2⟩:=List.pairwise_cons.1 hp
  have ho:=hm o List.mem_cons_self
  have hr:∀ y∈r,iOk (gIo us y):=fun y hy=>hm y (List.mem_cons_of_mem _ hy)
  simp only [insG]
  split
  ·rename_i hc
   have hc':gLe (gIo us g) (gIo us o)=true:=by
    unfold gLe
    rw [decide_eq_true_eq]
    omega
   refine List.pairwise_cons.2 ⟨fun y hy=>?_,hp⟩
   rcases List.mem_cons.1 hy with rfl | hy
   ·exact hc'
   ·exact gLe_trans hg ho (hr y hy) hc' (p1 y hy)
  ·rename_i hc
   have hc':gLe (gIo us o) (gIo us g)=true:=by
    unfold gLe
    rw [decide_eq_true_eq]
    omega
   refine List.pairwise_cons.2 ⟨fun y hy=>?_,insG_sorted hg hr p2⟩
   rcases List.mem_cons.1 ((insG_perm us g r).mem_iff.1 hy) with rfl | hy
   ·exact hc'
   ·exact p1 y hy
theorem sG_sortedA {us:List T} (h:us.all tOk=true):∀ (l a:List (List Nat)),(∀ g∈l,∀ k∈g,k < us.length)→(∀ g∈a,iOk (gIo us g))→a.Pairwise (fun a b=>gLe (gIo us a) (gIo us b)=true)→(l.foldl (fun a g=>insG us (inT us g) a) a).Pairwise (fun a b=>gLe (gIo us a) (gIo us b)=true)
 | [],a,_,_,hp=>hp
 | g :: r,a,hl,ha,hp=>by
  simp only [List.foldl_cons]
  have hg:iOk (gIo us (inT us g)):=by rw [inT_cost h (hl g List.mem_cons_self)]; exact gI_ok h (hl g List.mem_cons_self)
  refine sG_sortedA h r _ (fun j hj=>hl j (List.mem_cons_of_mem _ hj)) (fun j hj=>?_) (insG_sorted hg ha hp)
  rcases List.mem_cons.1 ((insG_perm us (inT us g) a).mem_iff.1 hj) with rfl | q
  ·exact hg
  ·exact ha j q
def gA (us:List T) (L:List (List Nat)):Int:=gD ((sG us L).map (gIo us))
theorem gIo_M (us:List T):∀ L:List (List Nat),gM (L.map (gIo us))=6 ^ L.flatten.length
 | []=>rfl
 | g :: r=>by
  simp only [List.map_cons,gM,List.flatten_cons,List.length_append]
  rw [gIo_M us r,Int.pow_add]
  rfl
theorem sG_flat (us:List T) (L:List (List Nat)):(sG us L).flatten.Perm L.flatten:=by
 have a:=(sG_perm us L).flatten
 refine a.trans ?_
 clear a
 induction L with
 | nil=>exact List.Perm.refl _
 | cons g r ih =>
  simp only [List.map_cons,List.flatten_cons]
  exact (inT_perm us g).append ih
theorem sG_gok {us:List T} {m:Nat} {L:List (List Nat)} (G:Gok m L):Gok m (sG us L):=by
 have F:=sG_flat us L
 have mem:∀ g∈sG us L,∃ x∈L,g=inT us x:=fun g hg=>by
  obtain ⟨x,h1,h2⟩:=List.mem_map.1 ((sG_perm us L).mem_iff.1 hg)
  exact ⟨x,h1,h2.symm⟩
 refine ⟨fun g hg k hk=>?_,F.nodup_iff.2 G.nd,fun k hk=>F.mem_iff.2 (G.all k hk),fun g hg e=>?_⟩
 ·obtain ⟨x,h1,rfl⟩:=mem g hg
  exact G.lt x h1 k ((inT_perm us x).mem_iff.1 hk)
 ·obtain ⟨x,h1,rfl⟩:=mem g hg
  have:=inT_perm us x
  rw [e] at this
  exact G.ne x h1 this.symm.eq_nil
theorem gV_iff {L:List (List Nat)} {s:Nat}:gV L s=true↔∀ g∈L,∃ k∈g,s.testBit k=true:=by
 unfold gV
 rw [List.all_eq_true]
 constructor
 ·intro h g hg
  exact List.any_eq_true.1 (h g hg)
 ·intro h g hg
  exact List.any_eq_true.2 (h g hg)
theorem sG_gV (us:List T) (L:List (List Nat)) (s:Nat):gV (sG us L) s=gV L s:=by
 rw [Bool.eq_iff_iff,gV_iff,gV_iff]
 constructor
 ·intro h g hg
  obtain ⟨k,k1,k2⟩:=h (inT us g) ((sG_perm us L).mem_iff.2 (List.mem_map_of_mem hg))
  exact ⟨k,(inT_perm us g).mem_iff.1 k1,k2⟩
 ·intro h g hg
  obtain ⟨x,h1,rfl⟩:=List.mem_map.1 ((sG_perm us L).mem_iff.1 hg)
  obtain ⟨k,k1,k2⟩:=h x h1
  exact ⟨k,(inT_perm us x).mem_iff.2 k1,k2⟩
theorem gok_len {m:Nat} {L:List (List Nat)} (G:Gok m L):L.flatten.length=m:=by
 have:L.flatten.Perm (List.range m):=(List.perm_ext_iff_of_nodup G.nd List.nodup_range).2 fun k=>by
  rw [List.mem_range]
  refine ⟨fun hk=>?_,G.all k⟩
  obtain ⟨g,h1,h2⟩:=List.mem_flatten.1 hk
  exact G.lt g h1 k h2
 rw [this.length_eq,List.length_range]
theorem gT_plan {us t:List T} (h:us.all tOk=true) {L:List (List Nat)} (G:Gok us.length L) (hv:∀ s,s < 2 ^ us.length→tv t s=gV L s) :
  okT us.length t (non us.length) (gT (sG us L))∧tA us (non us.length) (gT (sG us L))=gA us L:=by
 have GS:=sG_gok (us:=us) G
 have un:∀ k∈(sG us L).flatten,(non us.length)[k]?=some (-1):=fun k hk=>by
  obtain ⟨g,h1,h2⟩:=List.mem_flatten.1 hk
  have:=GS.lt g h1 k h2
  unfold non
  rw [List.getElem?_replicate,if_pos this]
 refine ⟨gT_ok h (sG us L) [] (non us.length) (non_len _) (non_all _) (by simpa using GS.lt) GS.ne (fun s hs=>by rw [List.nil_append,sG_gV]; exact hv s hs) (fun g hg=>by cases hg) GS.nd un,?_⟩
 have C:=gT_cost (sG us L) (non us.length) (non_len _) GS.nd un
 rw [gIo_M,gok_len GS,wk_non,Int.mul_comm] at C
 exact Int.eq_of_mul_eq_mul_left (by have:(0:Int) < 6 ^ us.length:=Int.pow_pos (by omega); omega) C
end
section
def orL:List Nat→List T
 | []=>[]
 | k :: r=>(0,(k:Int)) :: r.flatMap fun (j:Nat)=>[(0,(j:Int)),(3,0)]
def grL:List (List Nat)→List T
 | []=>[]
 | g :: R=>orL g++R.flatMap fun h=>orL h++[(2,0)]
def orX (x:Tm) (r:List Nat):Tm:=r.foldl (fun x j=>.or x (.tst j)) x
def orTm:List Nat→Tm
 | []=>.tst 0
 | k :: r=>orX (.tst k) r
def anX (x:Tm) (R:List (List Nat)):Tm:=R.foldl (fun x h=>.and x (orTm h)) x
def grTm:List (List Nat)→Tm
 | []=>.tst 0
 | g :: R=>anX (orTm g) R
theorem flt_orX:∀ (r:List Nat) (x:Tm),flt (orX x r)=flt x++r.flatMap fun (j:Nat)=>[(0,(j:Int)),(3,0)]
 | [],x=>by simp [orX]
 | k :: r,x=>by
  have ih:=flt_orX r (.or x (.tst k))
  have e:orX x (k :: r)=orX (.or x (.tst k)) r:=rfl
  rw [e,ih]
  simp [flt]
theorem flt_orTm {g:List Nat} (h:g≠[]):flt (orTm g)=orL g:=by
 cases g with
 | nil=>exact absurd rfl h
 | cons k r=>simp only [orTm,orL]; rw [flt_orX]; rfl
theorem flt_anX:∀ (R:List (List Nat)) (x:Tm),(∀ g∈R,g≠[])→flt (anX x R)=flt x++R.flatMap fun h=>orL h++[(2,0)]
 | [],x,_=>by simp [anX]
 | g :: R,x,h=>by
  have ih:=flt_anX R (.and x (orTm g)) fun y hy=>h y (List.mem_cons_of_mem _ hy)
  have e:anX x (g :: R)=anX (.and x (orTm g)) R:=rfl
  rw [e,ih]
  simp [flt,flt_orTm (h g List.mem_cons_self)]
theorem flt_grTm {L:List (List Nat)} (hL:L≠[]) (h:∀ g∈L,g≠[]):flt (grTm L)=grL L:=by
 cases L with
 | nil=>exact absurd rfl hL
 | cons g R =>
  simp only [grTm,grL]
  rw [flt_anX R _ fun y hy=>h y (List.mem_cons_of_mem _ hy),flt_orTm (h g List.mem_cons_self)]
theorem tb_orX {m:Int}:∀ (r:List Nat) (x:Tm),tb m x→(∀ k∈r,(k:Int) < m)→tb m (orX x r)
 | [],x,hx,_=>hx
 | k :: r,x,hx,h=>tb_orX r (.or x (.tst k)) ⟨hx,h k List.mem_cons_self⟩ fun j hj=>h j (List.mem_cons_of_mem _ hj)
theorem tb_orTm {m:Int} {g:List Nat} (hg:g≠[]) (h:∀ k∈g,(k:Int) < m):tb m (orTm g):=by
 cases g with
 | nil=>exact absurd rfl hg
 | cons k r=>exact tb_orX r (.tst k) (h k List.mem_cons_self) fun j hj=>h j (List.mem_cons_of_mem _ hj)
theorem tb_anX {m:Int}:∀ (R:List (List Nat)) (x:Tm),tb m x→(∀ g∈R,g≠[])→(∀ g∈R,∀ k∈g,(k:Int) < m)→tb m (anX x R)
 | [],x,hx,_,_=>hx
 | g :: R,x,hx,hn,h=>tb_anX R (.and x (orTm g)) ⟨hx,tb_orTm (hn g List.mem_cons_self) (h g List.mem_cons_self)⟩ (fun y hy=>hn y (List.mem_cons_of_mem _ hy)) fun y hy=>h y (List.mem_cons_of_mem _ hy)
theorem tb_grTm {m:Int} {L:List (List Nat)} (hL:L≠[]) (hn:∀ g∈L,g≠[]) (h:∀ g∈L,∀ k∈g,(k:Int) < m):tb m (grTm L):=by
 cases L with
 | nil=>exact absurd rfl hL
 | cons g R=>exact tb_anX R _ (tb_orTm (hn g List.mem_cons_self) (h g List.mem_cons_self)) (fun y hy=>hn y (List.mem_cons_of_mem _ hy)) fun y hy=>h y (List.mem_cons_of_mem _ hy)
theorem ev_orX (s:Nat):∀ (r:List Nat) (x:Tm),ev s (orX x r)=(ev s x || r.any fun k=>s.testBit k)
 | [],x=>by simp [orX]
 | k :: r,x=>by
  have e:orX x (k :: r)=orX (.or x (.tst k)) r:=rfl
  rw [e,ev_orX s r]
  simp [ev,Bool.or_assoc]
theorem ev_orTm (s:Nat) {g:List Nat} (h:g≠[]):ev s (orTm g)=g.any fun k=>s.testBit k:=by
 cases g with
 | nil=>exact absurd rfl h
 | cons k r=>simp only [orTm]; rw [ev_orX]; simp [ev]
theorem ev_anX (s:Nat):∀ (R:List (List Nat)) (x:Tm),(∀ g∈R,g≠[])→ev s (anX x R)=(ev s x && gV R s)
 | [],x,_=>by simp [anX,gV]
 | g :: R,x,h=>by
  have e:anX x (g :: R)=anX (.and x (orTm g)) R:=rfl
  rw [e,ev_anX s R _ fun y hy=>h y (List.mem_cons_of_mem _ hy)]
  simp [ev,gV,ev_orTm s (h g List.mem_cons_self),Bool.and_assoc]
theorem ev_grTm (s:Nat) {L:List (List Nat)} (hL:L≠[]) (h:∀ g∈L,g≠[]):ev s (grTm L)=gV L s:=by
 cases L with
 | nil=>exact absurd rfl hL
 | cons g R =>
  simp only [grTm]
  rw [ev_anX s R _ fun y hy=>h y (List.mem_cons_of_mem _ hy),ev_orTm s (h g List.mem_cons_self)]
  simp [gV]
theorem occ_orX (a:Nat):∀ (r:List Nat) (x:Tm),occ a (orX x r)=true↔occ a x=true∨a∈r
 | [],x=>by simp [orX]
 | k :: r,x=>by
  have e:orX x (k :: r)=orX (.or x (.tst k)) r:=rfl
  rw [e,occ_orX a r]
  have ek:(k=a)=(a=k):=propext eq_comm
  simp only [occ,Bool.or_eq_true,beq_iff_eq,List.mem_cons,or_assoc,ek]
theorem occ_orTm (a:Nat) {g:List Nat} (h:g≠[]):occ a (orTm g)=true↔a∈g:=by
 cases g with
 | nil=>exact absurd rfl h
 | cons k r =>
  simp only [orTm]
  rw [occ_orX]
  have ek:(k=a)=(a=k):=propext eq_comm
  simp only [occ,beq_iff_eq,List.mem_cons,ek]
theorem occ_anX (a:Nat):∀ (R:List (List Nat)) (x:Tm),(∀ g∈R,g≠[])→(occ a (anX x R)=true↔occ a x=true∨a∈R.flatten)
 | [],x,_=>by simp [anX]
 | g :: R,x,h=>by
  have e:anX x (g :: R)=anX (.and x (orTm g)) R:=rfl
  rw [e,occ_anX a R _ fun y hy=>h y (List.mem_cons_of_mem _ hy)]
  simp only [occ,Bool.or_eq_true,List.flatten_cons,List.mem_append,or_assoc]
  rw [occ_orTm a (h g List.mem_cons_self)]
theorem occ_grTm (a:Nat) {L:List (List Nat)} (hL:L≠[]) (h:∀ g∈L,g≠[]):occ a (grTm L)=true↔a∈L.flatten:=by
 cases L with
 | nil=>exact absurd rfl hL
 | cons g R =>
  simp only [grTm]
  rw [occ_anX a R _ fun y hy=>h y (List.mem_cons_of_mem _ hy),occ_orTm a (h g List.mem_cons_self)]
  simp
theorem ton_orX:∀ (r:List Nat) (x:Tm),ton x→r.Nodup→(∀ k∈r,occ k x=false)→ton (orX x r)
 | [],x,hx,_,_=>hx
 | k :: r,x,hx,nd,h=>by
  obtain ⟨n1,n2⟩:=List.nodup_cons.1 nd
  refine ton_orX r (.or x (.tst k)) ⟨hx,trivial,fun a ha=>?_⟩ n2 fun j hj=>?_
  ·simp only [occ]
   rw [beq_eq_false_iff_ne]
   intro e
   have:=h k List.mem_cons_self
   rw [e,ha] at this
   cases this
  ·simp only [occ]
   rw [h j (List.mem_cons_of_mem _ hj),Bool.false_or,beq_eq_false_iff_ne]
   intro e
   exact n1 (by rw [e]; exact hj)
theorem ton_orTm {g:List Nat} (nd:g.Nodup):ton (orTm g):=by
 cases g with
 | nil=>trivial
 | cons k r =>
  obtain ⟨n1,n2⟩:=List.nodup_cons.1 nd
  refine ton_orX r (.tst k) trivial n2 fun j hj=>?_
  simp only [occ]
  rw [beq_eq_false_iff_ne]
  intro e
  exact n1 (by rw [e]; exact hj)
theorem ton_anX:∀ (R:List (List Nat)) (x:Tm),ton x→R.flatten.Nodup→(∀ g∈R,g≠[])→(∀ k∈R.flatten,occ k x=false)→ton (anX x R)
 | [],x,hx,_,_,_=>hx
 | g :: R,x,hx,nd,hn,h=>by
  rw [List.flatten_cons] at nd h
  obtain ⟨n1,n2,n3⟩:=List.nodup_append.1 nd
  refine ton_anX R (.and x (orTm g)) ⟨hx,ton_orTm n1,fun a ha=>?_⟩ n2 (fun y hy=>hn y (List.mem_cons_of_mem _ hy)) fun k hk=>?_
  ·rw [← Bool.not_eq_true,occ_orTm a (hn g List.mem_cons_self)]
   intro q
   rw [h a (List.mem_append_left _ q)] at ha
   cases ha
  ·simp only [occ]
   rw [h k (List.mem_append_right _ hk),Bool.false_or,← Bool.not_eq_true,occ_orTm k (hn g List.mem_cons_self)]
   intro q
   exact n3 k q k hk rfl
theorem ton_grTm {L:List (List Nat)} (nd:L.flatten.Nodup) (hn:∀ g∈L,g≠[]):ton (grTm L):=by
 cases L with
 | nil=>trivial
 | cons g R =>
  rw [List.flatten_cons] at nd
  obtain ⟨n1,n2,n3⟩:=List.nodup_append.1 nd
  refine ton_anX R _ (ton_orTm n1) n2 (fun y hy=>hn y (List.mem_cons_of_mem _ hy)) fun k hk=>?_
  rw [← Bool.not_eq_true,occ_orTm k (hn g List.mem_cons_self)]
  intro q
  exact n3 k q k hk rfl
theorem ton_once {m:Int} (h1:1≤m) (h5:m≤5):∀ {x:Tm},tb m x→∀ {s:Int} {r:List T},0≤s→s < 2 ^ m.toNat→ton x→(∀ a,occ a x=true→s.toNat.testBit a=false)→onceM r ((flt x).foldl letF s)=true→onceM (flt x++r) s=true
 | .tst b,hb,s,r,h0,h2,_,ha,h=>by
  have:=ha b (by simp [occ])
  rw [← fl_bit h0] at this
  simp [flt,onceM,this]
  simpa [flt,letF] using h
 | .neg x,hb,s,r,h0,h2,ht,ha,h=>by
  rw [flt,List.append_assoc]
  refine ton_once h1 h5 (x:=x) hb h0 h2 ht ha ?_
  simp [onceM]
  simpa [flt,letF] using h
 | .and x y,hb,s,r,h0,h2,ht,ha,h=>by
  rw [flt,List.append_assoc,List.append_assoc]
  obtain ⟨l1,l2⟩:=lett_occ h1 h5 (x:=x) hb.1 h0 h2
  refine ton_once h1 h5 (x:=x) hb.1 h0 h2 ht.1 (fun a q=>ha a (by simp [occ,q])) ?_
  refine ton_once h1 h5 (x:=y) hb.2 l1.1 l1.2 ht.2.1 (fun a q=>?_) ?_
  ·rw [l2,ha a (by simp [occ,q]),Bool.false_or]
   cases hx:occ a x with
   | false=>rfl
   | true=>rw [ht.2.2 a hx] at q; cases q
  ·simp [onceM]
   simpa [flt,letF] using h
 | .or x y,hb,s,r,h0,h2,ht,ha,h=>by
  rw [flt,List.append_assoc,List.append_assoc]
  obtain ⟨l1,l2⟩:=lett_occ h1 h5 (x:=x) hb.1 h0 h2
  refine ton_once h1 h5 (x:=x) hb.1 h0 h2 ht.1 (fun a q=>ha a (by simp [occ,q])) ?_
  refine ton_once h1 h5 (x:=y) hb.2 l1.1 l1.2 ht.2.1 (fun a q=>?_) ?_
  ·rw [l2,ha a (by simp [occ,q]),Bool.false_or]
   cases hx:occ a x with
   | false=>rfl
   | true=>rw [ht.2.2 a hx] at q; cases q
  ·simp [onceM]
   simpa [flt,letF] using h
theorem run_flt {m:Int} (h1:1≤m) (h5:m≤5):∀ {x:Tm},tb m x→∀ (p:Int) (r:List T),0≤p→runM m p (flt x++r)=runM m (p+1) r
 | .tst a,hb,p,r,hp=>by
  have hb':(a:Int) < m:=hb
  simp [flt,runM,mkS]
  grind
 | .neg x,hb,p,r,hp=>by
  rw [flt,List.append_assoc,run_flt h1 h5 (x:=x) hb p _ hp]
  simp [runM,mkS]
  grind
 | .and x y,hb,p,r,hp=>by
  rw [flt,List.append_assoc,List.append_assoc,run_flt h1 h5 (x:=x) hb.1 p _ hp,run_flt h1 h5 (x:=y) hb.2 (p+1) _ (by omega)]
  simp [runM,mkS]
  grind
 | .or x y,hb,p,r,hp=>by
  rw [flt,List.append_assoc,List.append_assoc,run_flt h1 h5 (x:=x) hb.1 p _ hp,run_flt h1 h5 (x:=y) hb.2 (p+1) _ (by omega)]
  simp [runM,mkS]
  grind
theorem orL_len {g:List Nat} (h:g≠[]):(orL g).length+1=2 * g.length:=by
 cases g with
 | nil=>exact absurd rfl h
 | cons k r =>
  simp only [orL,List.length_cons]
  clear h
  induction r with
  | nil=>rfl
  | cons j r ih=>simp only [List.flatMap_cons,List.length_append,List.length_cons,List.length_nil] at ih ⊢; omega
theorem grR_len:∀ {R:List (List Nat)},(∀ g∈R,g≠[])→(R.flatMap fun h=>orL h++[(2,0)]).length=2 * R.flatten.length
 | [],_=>rfl
 | g :: R,h=>by
  have ih:=grR_len (R:=R) fun y hy=>h y (List.mem_cons_of_mem _ hy)
  have:=orL_len (h g List.mem_cons_self)
  simp only [List.flatMap_cons,List.length_append,List.flatten_cons,List.length_cons,List.length_nil] at ih ⊢
  omega
theorem grL_len {L:List (List Nat)} (hL:L≠[]) (h:∀ g∈L,g≠[]):(grL L).length+1=2 * L.flatten.length:=by
 cases L with
 | nil=>exact absurd rfl hL
 | cons g R =>
  have a:=orL_len (h g List.mem_cons_self)
  have b:=grR_len (R:=R) fun y hy=>h y (List.mem_cons_of_mem _ hy)
  simp only [grL,List.length_append,List.flatten_cons]
  omega
theorem gok_ne {m:Nat} (hm:1≤m) {L:List (List Nat)} (G:Gok m L):L≠[]:=fun e=>by
 have:=G.all 0 (by omega)
 rw [e] at this
 cases this
theorem gr_term {m:Nat} (h1:1≤m) (h5:m≤5) {L:List (List Nat)} (G:Gok m L) :
  tmOk m (grL L)=true∧onceOk m (grL L)=true∧letOf m (grL L)=2 ^ m - 1∧∀ s,s < 2 ^ m→tv (grL L) s=gV L s:=by
 have hL:=gok_ne h1 G
 have hb:=tb_grTm (m:=m) hL G.ne fun g hg k hk=>by have:=G.lt g hg k hk; omega
 have hf:=flt_grTm hL G.ne
 have ln:=grL_len hL G.ne
 rw [gok_len G] at ln
 have tm:tmOk m (grL L)=true:=tmOk_iff.2 ⟨by omega,by omega,by
  have:=run_flt (m:=m) (by omega) (by omega) hb 0 [] (by omega)
  rw [List.append_nil,hf] at this
  rw [this]
  rfl⟩
 obtain ⟨p1,p2,p3⟩:=pow5 (m:=m) (by omega) (by omega)
 rw [Int.toNat_natCast] at p1 p2 p3
 have on:onceM (grL L) 0=true:=by
  have:=ton_once (m:=m) (by omega) (by omega) hb (s:=0) (r:=[]) (by omega) (by rw [Int.toNat_natCast]; omega) (ton_grTm G.nd G.ne) (fun a _=>by simp) rfl
  rwa [List.append_nil,hf] at this
 obtain ⟨l1,l2⟩:=lett_occ (m:=m) (by omega) (by omega) hb (s:=0) (by omega) (by rw [Int.toNat_natCast]; omega)
 rw [hf] at l1 l2
 rw [Int.toNat_natCast] at l1
 refine ⟨tm,by unfold onceOk; rw [tm,on]; rfl,?_,fun s hs=>?_⟩
 ·unfold letOf lett
  rw [tm,if_pos rfl]
  have e:((grL L).foldl letF 0).toNat=2 ^ m - 1:=by
   apply Nat.eq_of_testBit_eq
   intro k
   rw [l2,Nat.testBit_two_pow_sub_one]
   by_cases hk:k < m
   ·rw [(occ_grTm k hL G.ne).2 (G.all k hk)]
    simp [hk]
   ·have:occ k (grTm L)=false:=by
     rw [← Bool.not_eq_true,occ_grTm k hL G.ne]
     intro q
     obtain ⟨g,g1,g2⟩:=List.mem_flatten.1 q
     exact hk (G.lt g g1 k g2)
    rw [this]
    simp [hk]
  omega
 ·have:=tv_flt (m:=m) (by omega) hb (s:=s) (by omega)
  rw [hf,ev_grTm s hL G.ne] at this
  exact this
end
section
theorem rA_gD (us:List T):∀ (l:List Int) (on:Int),rA us 1 on l=on * gD ((l.map Int.toNat).map (itT us))
 | [],on=>by simp [rA,gD]
 | a :: r,on=>by
  simp only [rA,List.map_cons,gD]
  rw [rA_gD us r,its_M,List.length_map,Int.pow_succ]
  have e1:(itT us a.toNat).1=6 * cA us a.toNat:=rfl
  have e2:(itT us a.toNat).2.2 - (itT us a.toNat).2.1=6 - pA us a.toNat:=rfl
  have e3:eA us 1 a.toNat=pA us a.toNat:=by unfold eA pA; rfl
  rw [e1,e2,e3]
  grind
theorem grC_all {us:List T} (h:us.all tOk=true) {l:List Nat} (hl:l.Perm (List.range us.length)):grC us l=rA us 1 1 (rO us 1 us.length):=by
 have lt:∀ k∈l,k < us.length:=fun k hk=>List.mem_range.1 (hl.mem_iff.1 hk)
 have P:((rO us 1 us.length).map Int.toNat).Perm l:=by
  refine ((rO_perm us 1 us.length).map Int.toNat).trans ?_
  refine List.Perm.trans ?_ hl.symm
  unfold rng
  rw [List.map_map]
  have:(Int.toNat ∘ fun (k:Nat)=>(k:Int))=id:=by funext k; simp
  rw [this,List.map_id]
 have S:=rO_sorted h 1 us.length (Nat.le_refl _)
 rw [rA_gD,Int.one_mul]
 refine gB_sorted (its_ok h lt) (P.map _) ?_
 rw [List.map_map]
 refine List.Pairwise.map _ (fun a b q=>?_) S
 unfold rLe at q
 unfold gLe
 rw [decide_eq_true_eq] at q ⊢
 have e3:∀ a:Int,eA us 1 a.toNat=pA us a.toNat:=fun a=>by unfold eA pA; rfl
 rw [e3,e3] at q
 show 6 * cA us a.toNat * pA us b.toNat≤6 * cA us b.toNat * pA us a.toNat
 rw [Int.mul_assoc,Int.mul_assoc]
 omega
end
section
def tLt (us:List T) (a b:Nat):Prop:=cA us a * pA us b < cA us b * pA us a∨cA us b * pA us a=cA us a * pA us b∧a < b
theorem tLt_trans {us:List T} {a b c:Nat} (ha:1≤pA us a) (hb:1≤pA us b) (hc:1≤pA us c) (h1:tLt us a b) (h2:tLt us b c):tLt us a c:=by
 unfold tLt at *
 revert h1 h2 ha hb hc
 generalize cA us a=x
 generalize cA us b=y
 generalize cA us c=z
 generalize pA us a=p
 generalize pA us b=q
 generalize pA us c=r
 intro ha hb hc h1 h2
 have k1:x * q≤y * p:=by omega
 have k2:y * r≤z * q:=by omega
 have m1:=Int.mul_le_mul_of_nonneg_right k1 (show 0≤r by omega)
 have m2:=Int.mul_le_mul_of_nonneg_right k2 (show 0≤p by omega)
 have e1:x * q * r=x * r * q:=by grind
 have e2:y * p * r=y * r * p:=by grind
 have e3:z * q * p=z * p * q:=by grind
 have le:x * r≤z * p:=by
  refine Int.le_of_mul_le_mul_right (a:=q) ?_ (by omega)
  omega
 by_cases e:x * r=z * p
 ·right
  have s:x * r * q=z * p * q:=by rw [e]
  have t1:x * q * r=y * p * r:=by omega
  have t2:y * r * p=z * q * p:=by omega
  have u1:x * q=y * p:=Int.eq_of_mul_eq_mul_right (by omega) t1
  have u2:y * r=z * q:=Int.eq_of_mul_eq_mul_right (by omega) t2
  refine ⟨e.symm,?_⟩
  omega
 ·left
  omega
theorem tLt_asymm {us:List T} {a b:Nat} (h1:tLt us a b) (h2:tLt us b a):False:=by
 unfold tLt at *
 omega
theorem insT_t {us:List T} (h:us.all tOk=true) {k:Nat} (hk:k < us.length):∀ {l:List Nat},(∀ o∈l,o < us.length)→l.Pairwise (fun a b=>¬ tLt us b a)→(insT us k l).Pairwise (fun a b=>¬ tLt us b a)
 | [],_,_=>List.pairwise_singleton _ _
 | o :: r,hm,hp=>by
  obtain ⟨p1,p2⟩:=List.pairwise_cons.1 hp
  have ho:=hm o List.mem_cons_self
  have hr:∀ y∈r,y < us.length:=fun y hy=>hm y (List.mem_cons_of_mem _ hy)
  simp only [insT]
  split
  ·rename_i hc
   have hc':tLt us k o:=hc
   refine List.pairwise_cons.2 ⟨fun y hy q=>?_,hp⟩
   rcases List.mem_cons.1 hy with rfl | hy
   ·exact tLt_asymm hc' q
   ·exact p1 y hy (tLt_trans (pA_bd h (hr y hy)).1 (pA_bd h hk).1 (pA_bd h ho).1 q hc')
  ·rename_i hc
   have hc':¬ tLt us k o:=hc
   refine List.pairwise_cons.2 ⟨fun y hy=>?_,insT_t h hk hr p2⟩
   rcases List.mem_cons.1 ((insT_perm us k r).mem_iff.1 hy) with rfl | hy
   ·exact hc'
   ·exact p1 y hy
theorem inT_tA {us:List T} (h:us.all tOk=true):∀ (l a:List Nat),(∀ k∈l,k < us.length)→(∀ k∈a,k < us.length)→a.Pairwise (fun a b=>¬ tLt us b a)→(l.foldl (fun a k=>insT us k a) a).Pairwise (fun a b=>¬ tLt us b a)
 | [],a,_,_,hp=>hp
 | k :: r,a,hl,ha,hp=>by
  simp only [List.foldl_cons]
  have hk:=hl k List.mem_cons_self
  refine inT_tA h r _ (fun j hj=>hl j (List.mem_cons_of_mem _ hj)) (fun j hj=>?_) (insT_t h hk ha hp)
  rcases List.mem_cons.1 ((insT_perm us k a).mem_iff.1 hj) with rfl | q
  ·exact hk
  ·exact ha j q
end
section
attribute [-simp] DV.cells
attribute [local simp] sliceD cells_st cells_sl cells_i cells_y cells_b cells_s cells_w
theorem lend_eR (L:List (List Int)):lendL (L.map eR)=L.map eR:=by
 rw [lendL_map,List.map_map]
 apply List.map_congr_left
 intro r _
 simp [eR,DV.lend]
theorem al_eR (L:List (List Int)):allOldL (L.map eR)=true:=by
 rw [allOldL_all,List.all_map,List.all_eq_true]
 intro r _
 simp [eR,DV.allOld]
attribute [local simp] lend_eR al_eR
def gokB (m:Int) (L:List (List Int)):Bool:=L.all (fun r=>!r.isEmpty) && orOk m L.flatten
def gAl (m:Int):Nat→List (List Int)→Bool
 | _,[]=>true
 | n,r :: L=>decide (1≤(r.length:Int)∧(r.length:Int)≤m - n) && gAl m (n+r.length) L
theorem gAl_iff {m:Int}:∀ {L:List (List Int)} {n:Nat},(n:Int)≤m→(gAl m n L=true↔L.all (fun r=>!r.isEmpty)=true∧((n+L.flatten.length:Nat):Int)≤m)
 | [],n,h=>by simp [gAl,h]
 | r :: L,n,h=>by
  simp only [gAl,Bool.and_eq_true,decide_eq_true_eq,List.all_cons,List.flatten_cons,List.length_append]
  by_cases hr:(r.length:Int)≤m - n
  ·rw [gAl_iff (L:=L) (n:=n+r.length) (by omega)]
   cases r with
   | nil=>simp
   | cons a r =>
    simp only [List.isEmpty_cons,Bool.not_false,true_and,List.length_cons] at *
    constructor
    ·rintro ⟨_,h1,h2⟩; exact ⟨h1,by omega⟩
    ·rintro ⟨h1,h2⟩; exact ⟨⟨by omega,by omega⟩,h1,by omega⟩
  ·constructor
   ·rintro ⟨⟨_,h2⟩,_⟩; exact absurd h2 hr
   ·rintro ⟨_,h2⟩; omega
theorem gokB_al {m:Int} (hm:1≤m∧m≤5) (L:List (List Int)):gokB m L=(gAl m 0 L && orOk m L.flatten):=by
 unfold gokB
 cases h:orOk m L.flatten with
 | false=>simp
 | true =>
  have:=orOk_len h
  rw [Bool.and_true,Bool.and_true,Bool.eq_iff_iff,gAl_iff (by omega)]
  exact ⟨fun h=>⟨h,by omega⟩,fun h=>h.1⟩
def stGk (m:Int) (L:List (List Int)) (acc:List Int) (k:Nat):LS:=⟨[(0,.i m),(5,.own 2568 acc.length 0 acc.length),(11,.sl 0 (L.map eR)),(12,.i L.length),(13,.i k)],[(2568,acc.map .i)]⟩
theorem l_impl_GroupsOk {m:Int} (hm:1≤m∧m≤5) (A:List (List Int)) (hb:(A.length:Int) < 1099511627776):∀ (L:List (List Int)) (k:Nat) (acc:List Int),(acc.length:Int)≤m→k+L.length=A.length→A.drop k=L →
  ex lf F_impl_GroupsOk_W0 (stGk m A acc k)=if gAl m acc.length L=true then some (.exit 0,stGk m A (acc++L.flatten) A.length) else some (.ret,⟨[(4,.b false)],[]⟩)
 | [],k,acc,ha,hk,hd=>by
  have e:k=A.length:=by simpa using hk
  subst e
  rw [w_impl_GroupsOk_0]
  simp [stGk,F_impl_GroupsOk_L0,gAl]
 | r :: L,k,acc,ha,hk,hd=>by
  simp only [List.length_cons] at hk
  have hlt:(k:Int) < A.length:=by omega
  have hd2:A.drop (k+1)=L:=by rw [← List.drop_drop,hd]; rfl
  have hat:A[k]?=some r:=by
   have:=congrArg (fun l=>l[0]?) hd
   simpa using this
  have at1:atI (A.map eR) (k:Int)=some (.sl 0 (r.map .i)):=by
   simp only [atI,if_pos (Int.natCast_nonneg k)]
   show (A.map eR)[(k:Int).toNat]?=_
   rw [Int.toNat_natCast,List.getElem?_map,hat]; rfl
  have w1:wr ((k:Int)+1)=((k+1:Nat):Int):=by rw [wr_id (by omega) (by omega)]; omega
  have w2:wr (m - acc.length)=m - acc.length:=wr_id (by omega) (by omega)
  have W:=c_impl_isWithin (r.length:Int) 1 (m - acc.length)
  rw [w_impl_GroupsOk_0]
  by_cases hr:1≤(r.length:Int)∧(r.length:Int)≤m - acc.length
  ·rw [decide_eq_true hr] at W
   have ih:=l_impl_GroupsOk hm A hb L (k+1) (acc++r) (by simp; omega) (by omega) hd2
   have e:gAl m acc.length (r :: L)=gAl m (acc++r).length L:=by simp only [gAl]; rw [decide_eq_true hr]; simp
   rw [e,List.flatten_cons,← List.append_assoc,← ih]
   have c1:acc.length+r.length≤bound:=by unfold bound; omega
   unfold stGk
   simp [F_impl_GroupsOk_L0,hlt,at1,w1,w2,W,c1,-Int.natCast_add]
  ·rw [decide_eq_false hr] at W
   have e:gAl m acc.length (r :: L)=false:=by simp only [gAl]; rw [decide_eq_false hr]; rfl
   rw [e]
   unfold stGk
   simp [F_impl_GroupsOk_L0,hlt,at1,w1,w2,W,-Int.natCast_add]
theorem c_impl_GroupsOk (m:Int) (L:List (List Int)) (hb:(L.length:Int) < 1099511627776):call lf n_impl_GroupsOk [.i m,.sl 0 (L.map eR)]=some (.b (gokB m L),[]):=by
 rw [call_k lf n_impl_GroupsOk _ (F:=F_impl_GroupsOk) rfl rfl]
 cases h1:nOk m with
 | false =>
  have e:gokB m L=false:=by unfold gokB orOk; simp [h1]
  simp [F_impl_GroupsOk,c_impl_manyOk,h1,e]
 | true =>
  have hm:=nOk_iff.1 h1
  rw [gokB_al hm]
  have I:=l_impl_GroupsOk hm L hb L 0 [] (by simp; omega) (by simp) rfl
  unfold stGk at I
  simp only [List.length_nil,List.map_nil,Int.natCast_zero,List.nil_append] at I
  cases h2:gAl m 0 L with
  | false =>
   rw [h2] at I
   simp at I
   simp [F_impl_GroupsOk,c_impl_manyOk,h1,I]
  | true =>
   rw [h2,if_pos rfl] at I
   have l5:=((gAl_iff (n:=0) (by omega)).1 h2).2
   have C:=c_impl_OrderOk m L.flatten (by omega)
   generalize L.flatten=M at *
   have tk:List.take M.length (M.map DV.i)=M.map .i:=List.take_of_length_le (by simp)
   simp [F_impl_GroupsOk,c_impl_manyOk,h1,I,C,tk]
end
section
attribute [-simp] DV.cells
attribute [local simp] sliceD cells_st cells_sl cells_i cells_y cells_b cells_s cells_w
attribute [local simp] lend_eR al_eR
theorem at_eR {A:List (List Int)} {k:Nat} {r:List Int} (h:A[k]?=some r):atI (A.map eR) (k:Int)=some (.sl 0 (r.map .i)):=by
 simp only [atI,if_pos (Int.natCast_nonneg k)]
 show (A.map eR)[(k:Int).toNat]?=_
 rw [Int.toNat_natCast,List.getElem?_map,h]; rfl
theorem atI_int {r:List Int} {j:Nat} {a:Int} (h:r[j]?=some a):atI (r.map DV.i) (j:Int)=some (.i a):=by
 simp only [atI,if_pos (Int.natCast_nonneg j)]
 show (r.map DV.i)[(j:Int).toNat]?=_
 rw [Int.toNat_natCast,List.getElem?_map,h]; rfl
theorem drop_cons {α:Type} {A:List α} {k:Nat} {r:α} {L:List α} (h:A.drop k=r :: L):k < A.length∧A[k]?=some r∧A.drop (k+1)=L:=by
 have hk:k < A.length:=by
  rcases Nat.lt_or_ge k A.length with h1 | h1
  ·exact h1
  ·rw [List.drop_eq_nil_of_le h1] at h; cases h
 refine ⟨hk,?_,by rw [← List.drop_drop,h]; rfl⟩
 have:=congrArg (fun l=>l[0]?) h
 simpa using this
theorem wr_succ {k:Nat} (h:(k:Int) < 1099511627776):wr ((k:Int)+1)=((k+1:Nat):Int):=by rw [wr_id (by omega) (by omega)]; omega
def stGi (m:Int) (A:List (List Int)) (so n k j:Nat):LS:=⟨[(0,.i m),(1,.sl 0 (A.map eR)),(5,.i so),(6,.i n),(7,.i k),(8,.i j)],[]⟩
theorem gs_inner (m:Int) (A:List (List Int)) {k:Nat} {R:List Int} (hk:A[k]?=some R) (hkl:(k:Int) < A.length):∀ (r:List Int) (j so n:Nat),so < 32→((n+r.length:Nat):Int) < 1099511627776→(R.length:Int) < 1099511627776→R.drop j=r→j+r.length=R.length →
  ex lf F_spec_GroupsOk_W1 (stGi m A so n k j)=if orS (min m 5) so r=true then some (.exit 2,stGi m A (setO so r) (n+r.length) k R.length) else some (.ret,⟨[(4,.b false)],[]⟩):=by
 intro r
 induction r with
 | nil =>
  intro j so n hs hn hR hd hj
  have at1:=at_eR hk
  have e:j=R.length:=by simpa using hj
  subst e
  rw [w_spec_GroupsOk_1]
  simp [stGi,F_spec_GroupsOk_L1,orS,setO,at1,hkl]
 | cons a r ih0 =>
  intro j so n hs hn hR hd hj
  have at1:=at_eR hk
  obtain ⟨j1,j2,j3⟩:=drop_cons hd
  have j1':(j:Int) < R.length:=by omega
  have at2:=atI_int j2
  simp only [List.length_cons] at hn hj
  have w1:=wr_succ (k:=j) (by omega)
  have w2:=wr_succ (k:=n) (by omega)
  rw [w_spec_GroupsOk_1]
  by_cases a0:a < 0
  ·have e2:decide (0≤a∧a < min m 5)=false:=decide_eq_false (by omega)
   simp only [orS,e2,Bool.false_and]
   simp [stGi,F_spec_GroupsOk_L1,at1,at2,hkl,j1,j1',a0]
  ·by_cases a1:m≤a
   ·have e2:decide (0≤a∧a < min m 5)=false:=decide_eq_false (by omega)
    simp only [orS,e2,Bool.false_and]
    simp [stGi,F_spec_GroupsOk_L1,at1,at2,hkl,j1,j1',a0,a1]
   ·by_cases a5:5≤a
    ·have e2:decide (0≤a∧a < min m 5)=false:=decide_eq_false (by omega)
     simp only [orS,e2,Bool.false_and]
     simp [stGi,F_spec_GroupsOk_L1,at1,at2,hkl,j1,j1',a0,a1,a5]
    ·have e2:decide (0≤a∧a < min m 5)=true:=decide_eq_true (by omega)
     have o:=or_i (so:=so) (by omega) (by omega:0≤a) (by omega:a < 5)
     have bb:=bit_bI (a:=so) (s:=a.toNat) (by omega)
     rw [Int.toNat_of_nonneg (by omega)] at bb
     have ih:=ih0 (j+1) (so ||| 2 ^ a.toNat) (n+1) (or_lt2 (m:=5) hs (by omega)) (by omega) hR j3 (by omega)
     rw [show n+1+r.length=n+(r.length+1) by omega] at ih
     simp only [orS,e2,Bool.true_and,setO,List.length_cons]
     unfold stGi at *
     cases hb:so.testBit a.toNat with
     | true =>
      rw [hb] at bb
      have q:(bI true == 1)=true:=rfl
      simp [F_spec_GroupsOk_L1,at1,at2,hkl,j1,j1',a0,a1,a5,bb,q]
     | false =>
      rw [hb] at bb
      have q:(bI false == 1)=false:=rfl
      simp [F_spec_GroupsOk_L1,at1,at2,hkl,j1,j1',a0,a1,a5,bb,q,o,w1,w2,ih,-Int.natCast_add]
def gSp (m:Int):Nat→List (List Int)→Bool
 | _,[]=>true
 | so,r :: L=>!r.isEmpty && (orS m so r && gSp m (setO so r) L)
theorem gSp_eq (m:Int):∀ (L:List (List Int)) (so:Nat),gSp m so L=(L.all (fun r=>!r.isEmpty) && orS m so L.flatten)
 | [],so=>by simp [gSp,orS]
 | r :: L,so=>by
  simp only [gSp,List.all_cons,List.flatten_cons,orS_app,gSp_eq m L]
  cases r.isEmpty <;> cases orS m so r <;> simp
theorem setO32 {m:Int}:∀ {os:List Int} {so:Nat},so < 32→orS (min m 5) so os=true→setO so os < 32
 | [],_,h,_=>h
 | a :: r,so,h,ho=>by
  obtain ⟨h1,h2,h3⟩:=orS_cons.1 ho
  exact setO32 (os:=r) (or_lt2 (m:=5) h (by omega)) h3
def stGo (m:Int) (A:List (List Int)) (so n k:Nat):LS:=⟨[(0,.i m),(1,.sl 0 (A.map eR)),(5,.i so),(6,.i n),(7,.i k)],[]⟩
theorem gs_outer (m:Int) (A:List (List Int)) (hb:(A.length:Int) < 1099511627776):∀ (L:List (List Int)) (k so n:Nat),so < 32→((n+L.flatten.length:Nat):Int) < 1099511627776→A.drop k=L→k+L.length=A.length →
  ex lf F_spec_GroupsOk_W0 (stGo m A so n k)=if gSp (min m 5) so L=true then some (.exit 0,stGo m A (setO so L.flatten) (n+L.flatten.length) A.length) else some (.ret,⟨[(4,.b false)],[]⟩):=by
 intro L
 induction L with
 | nil =>
  intro k so n hs hn hd hk
  have e:k=A.length:=by simpa using hk
  subst e
  rw [w_spec_GroupsOk_0]
  simp [stGo,F_spec_GroupsOk_L0,gSp,setO]
 | cons R L ih0 =>
  intro k so n hs hn hd hk
  obtain ⟨k1,k2,k3⟩:=drop_cons hd
  have k1':(k:Int) < A.length:=by omega
  have at1:=at_eR k2
  simp only [List.flatten_cons,List.length_append] at hn
  simp only [List.length_cons] at hk
  have w1:=wr_succ (k:=k) (by omega)
  rw [w_spec_GroupsOk_0]
  by_cases h0:R=[]
  ·subst h0
   simp only [gSp]
   simp [stGo,F_spec_GroupsOk_L0,k1,k1',at1]
  ·have I:=gs_inner m A k2 k1' R 0 so n hs (by omega) (by omega) rfl (by simp)
   have e0:R.isEmpty=false:=by simpa using h0
   have r0:((R.length:Int) == 0)=false:=by have:=List.length_pos_iff.2 h0; exact beq_false_of_ne (by omega)
   simp only [gSp,e0,Bool.not_false,Bool.true_and]
   unfold stGi at I
   unfold stGo at *
   simp only [Int.natCast_zero] at I
   cases h1:orS (min m 5) so R with
   | false =>
    rw [h1] at I
    simp at I
    simp [F_spec_GroupsOk_L0,k1,k1',at1,r0,I]
   | true =>
    rw [h1,if_pos rfl] at I
    have ih:=ih0 (k+1) (setO so R) (n+R.length) (setO32 hs h1) (by omega) k3 (by omega)
    rw [← Nat.add_assoc,List.flatten_cons,setO_app,List.length_append,← Nat.add_assoc] at *
    simp only [Bool.true_and]
    simp [F_spec_GroupsOk_L0,k1,k1',at1,r0,I,w1,ih,-Int.natCast_add,-List.length_flatten]
theorem c_spec_GroupsOk (m:Int) (L:List (List Int)) (hb:(L.length:Int) < 1099511627776) (hf:(L.flatten.length:Int) < 1099511627776):call lf n_spec_GroupsOk [.i m,.sl 0 (L.map eR)]=some (.b (gokB m L),[]):=by
 rw [call_k lf n_spec_GroupsOk _ (F:=F_spec_GroupsOk) rfl rfl]
 have I:=gs_outer m L hb L 0 0 0 (by omega) (by omega) rfl (by simp)
 unfold stGo at I
 simp only [Int.natCast_zero,Nat.zero_add] at I
 have e1:nOk m=decide (1≤m∧m≤5):=rfl
 rw [gSp_eq] at I
 unfold gokB orOk
 rw [e1]
 by_cases hm:1≤m∧m≤5
 ·have h1:decide (1≤m∧m≤5)=true:=decide_eq_true hm
  have e5:min m 5=m:=by omega
  rw [e5] at I
  rw [h1]
  cases h3:(L.all (fun r=>!r.isEmpty) && orS m 0 L.flatten) with
  | false =>
   rw [h3] at I
   simp at I
   have e:(L.all (fun r=>!r.isEmpty) && (true && decide ((L.flatten.length:Int)=m) && orS m 0 L.flatten))=false:=by
    rw [Bool.true_and,← Bool.and_assoc,Bool.and_right_comm,h3]; rfl
   rw [e]
   simp [F_spec_GroupsOk,I]
  | true =>
   rw [h3,if_pos rfl] at I
   rw [Bool.and_eq_true] at h3
   rw [h3.1,h3.2]
   generalize L.flatten.length=z at *
   simp [F_spec_GroupsOk,I,c_spec_l1In,h1,Bool.beq_eq_decide_eq]
 ·have h1:decide (1≤m∧m≤5)=false:=decide_eq_false hm
  rw [h1]
  cases h3:(L.all (fun r=>!r.isEmpty) && orS (min m 5) 0 L.flatten) with
  | false =>
   rw [h3] at I
   simp at I
   simp [F_spec_GroupsOk,I]
  | true =>
   rw [h3,if_pos rfl] at I
   generalize L.flatten.length=z at *
   simp [F_spec_GroupsOk,I,c_spec_l1In,h1]
end
section
attribute [-simp] DV.cells
attribute [local simp] sliceD cells_st cells_sl cells_i cells_y cells_b cells_s cells_w
attribute [local simp] lend_eR al_eR
theorem c_szIntS (r:List Int) (left:Int) (hl:0≤left∧left≤1048576) (hr:r.length≤Go.maxLen):call lf n_laws_szIntS [.sl 0 (r.map .i),.i left]=some (.i (if (r.length:Int)≤left then left - r.length else -1),[]):=by
 rw [call_k lf n_laws_szIntS _ (F:=F_laws_szIntS) rfl rfl]
 have hm:Go.maxLen=9223372036854775807:=rfl
 have w1:wr (left - r.length)=left - r.length:=wr_id (by omega) (by omega)
 by_cases h:(r.length:Int)≤left
 ·have n0:¬ left - (r.length:Int) < 0:=by omega
  simp [F_laws_szIntS,w1,h,n0]
 ·have n0:left - (r.length:Int) < 0:=by omega
  simp [F_laws_szIntS,w1,h,n0]
def szL (left:Int):List (List Int)→Int
 | []=>left
 | r :: L=>if (r.length:Int)≤left then szL (left - r.length) L else -1
theorem szL_ge:∀ {L:List (List Int)} {left:Int},0≤szL left L→(L.flatten.length:Int)≤left
 | [],left,h=>by simpa [szL] using h
 | r :: L,left,h=>by
  simp only [szL] at h
  split at h
  ·have:=szL_ge h
   simp only [List.flatten_cons,List.length_append]; omega
  ·omega
def stSz (A:List (List Int)) (left:Int) (k:Nat):LS:=⟨[(0,.sl 0 (A.map eR)),(1,.i left),(5,.i k)],[]⟩
theorem sz_loop (A:List (List Int)) (hA:A.length≤1048576):∀ (L:List (List Int)) (k:Nat) (left:Int),(∀ r∈L,r.length≤Go.maxLen)→0≤left∧left≤1048576→A.drop k=L→k+L.length=A.length →
  (szL left L < 0→ex lf F_laws_szIntSS_W0 (stSz A left k)=some (.ret,⟨[(4,.i (-1))],[]⟩))∧(0≤szL left L→ex lf F_laws_szIntSS_W0 (stSz A left k)=some (.exit 0,stSz A (szL left L) A.length)):=by
 intro L
 induction L with
 | nil =>
  intro k left hr hl hd hk
  have e:k=A.length:=by simpa using hk
  subst e
  refine ⟨fun h=>by simp only [szL] at h; omega,fun h=>?_⟩
  rw [w_laws_szIntSS_0]
  simp [stSz,F_laws_szIntSS_L0,szL]
 | cons r L ih0 =>
  intro k left hr hl hd hk
  obtain ⟨k1,k2,k3⟩:=drop_cons hd
  have k1':(k:Int) < A.length:=by omega
  have at1:=at_eR k2
  simp only [List.length_cons] at hk
  have w1:=wr_succ (k:=k) (by omega)
  have C:=c_szIntS r left hl (hr r (by simp))
  simp only [szL]
  unfold stSz at *
  by_cases h:(r.length:Int)≤left
  ·have ih:=ih0 (k+1) (left - r.length) (fun x hx=>hr x (by simp [hx])) (by omega) k3 (by omega)
   rw [if_pos h] at C ⊢
   have n0:¬ left - (r.length:Int) < 0:=by omega
   refine ⟨fun hs=>?_,fun hs=>?_⟩
   ·rw [w_laws_szIntSS_0]
    have ih:=ih.1 hs
    simp [F_laws_szIntSS_L0,k1,k1',at1,C,n0,w1,ih,-Int.natCast_add]
   ·rw [w_laws_szIntSS_0]
    have ih:=ih.2 hs
    simp [F_laws_szIntSS_L0,k1,k1',at1,C,n0,w1,ih,-Int.natCast_add]
  ·rw [if_neg h] at C ⊢
   refine ⟨fun hs=>?_,fun hs=>by omega⟩
   rw [w_laws_szIntSS_0]
   simp [F_laws_szIntSS_L0,k1,k1',at1,C]
theorem c_szIntSS (L:List (List Int)) (left:Int) (hl:0≤left∧left≤1048576) (hL:L.length≤Go.maxLen) (hr:∀ r∈L,r.length≤Go.maxLen) :
  call lf n_laws_szIntSS [.sl 0 (L.map eR),.i left]=some (.i (-1),[])∨∃ z:Int,0≤z∧z≤left∧(L.length:Int)≤left∧(L.flatten.length:Int)≤left∧call lf n_laws_szIntSS [.sl 0 (L.map eR),.i left]=some (.i z,[]):=by
 have hm:Go.maxLen=9223372036854775807:=rfl
 have w1:wr (left - L.length)=left - L.length:=wr_id (by omega) (by omega)
 rw [call_k lf n_laws_szIntSS _ (F:=F_laws_szIntSS) rfl rfl]
 by_cases h:(L.length:Int)≤left
 ·have I:=sz_loop L (by omega) L 0 (left - L.length) hr (by omega) rfl (by simp)
  unfold stSz at I
  simp only [Int.natCast_zero] at I
  have n0:¬ left - (L.length:Int) < 0:=by omega
  by_cases hs:0≤szL (left - L.length) L
  ·have I:=I.2 hs
   have g:=szL_ge hs
   have u:∀ (L:List (List Int)) (a:Int),szL a L≤a∨szL a L=-1:=by
    intro L
    induction L with
    | nil=>intro a; left; simp [szL]
    | cons r L ih =>
     intro a
     simp only [szL]
     split
     ·rcases ih (a - r.length) with h | h
      ·left; omega
      ·right; exact h
     ·right; rfl
   refine .inr ⟨szL (left - L.length) L,hs,?_,h,by omega,?_⟩
   ·rcases u L (left - L.length) with h | h <;> omega
   ·simp [F_laws_szIntSS,w1,n0,I]
  ·have I:=I.1 (by omega)
   left
   simp [F_laws_szIntSS,w1,n0,I]
 ·left
  have n0:left - (L.length:Int) < 0:=by omega
  simp [F_laws_szIntSS,w1,n0]
def eN (r:List Int):DV:=.sl 1 (r.map .i)
theorem lend_eN (L:List (List Int)):lendL (L.map eN)=L.map eR:=by
 rw [lendL_map,List.map_map]
 apply List.map_congr_left
 intro r _
 simp [eN,eR,DV.lend]
theorem adopt_eN (o:Bool) (L:List (List Int)):adoptL o (L.map eN)=L.map eN:=by
 rw [adoptL_map,List.map_map]
 apply List.map_congr_left
 intro r _
 simp [eN,DV.adopt,adoptP]
theorem new_eN (L:List (List Int)):allNewL (L.map eN)=true:=by
 rw [allNewL_all,List.all_map,List.all_eq_true]
 intro r _
 simp [eN,DV.allNew,newP]
attribute [local simp] lend_eN adopt_eN new_eN
def cN (A:List (List Int)) (i:Nat):List DV:=(A.take i).map eN++List.replicate (A.length - i) (.sl 1 [])
theorem cN_len {A:List (List Int)} {i:Nat} (hi:i≤A.length):(cN A i).length=A.length:=by simp [cN]; omega
theorem cN_set {A:List (List Int)} {i:Nat} {r:List Int} (hi:i < A.length) (h:A[i]?=some r):(cN A i).set i (.sl 1 (r.map .i))=cN A (i+1):=by
 have e:((A.take i).map eN).length=i:=by simp; omega
 unfold cN
 rw [List.set_append_right _ _ (by omega),e,Nat.sub_self,List.take_add_one,h,show A.length - i=(A.length - (i+1))+1 by omega,List.replicate_succ,List.set_cons_zero,Option.toList_some,List.map_append,List.append_assoc]
 rfl
theorem cN_get {A:List (List Int)} {i:Nat} (hi:i < A.length):atN (cN A i) i=some (.sl 1 []):=by
 show (cN A i)[i]?=_
 have:((A.take i).map eN).length=i:=by simp; omega
 unfold cN
 rw [List.getElem?_append_right (by omega),this,Nat.sub_self,List.getElem?_replicate]
 simp; omega
theorem cN_zero (A:List (List Int)):cN A 0=List.replicate A.length (.sl 1 []):=by simp [cN]
theorem cN_all (A:List (List Int)):cN A A.length=A.map eN:=by simp [cN]
theorem c_toIntSS (A:List (List Int)) (hA:(A.length:Int)≤1048576) (hr:∀ r∈A,(r.length:Int)≤1048576):call lf n_laws_toIntSS [.sl 0 (A.map eR)]=some (.fr 1 (A.map eN),[]):=by
 rw [call_k lf n_laws_toIntSS _ (F:=F_laws_toIntSS) rfl rfl]
 have L:ex lf F_laws_toIntSS_W0 ⟨[(0,.sl 0 (A.map eR)),(3,.own 3592 A.length 0 A.length),(4,.i 0)],[(3592,cN A 0)]⟩ =
   some (.exit 0,⟨[(0,.sl 0 (A.map eR)),(3,.own 3592 A.length 0 A.length),(4,.i A.length)],[(3592,cN A A.length)]⟩):=by
  refine loop_count A.length (fun i=>⟨[(0,.sl 0 (A.map eR)),(3,.own 3592 A.length 0 A.length),(4,.i i)],[(3592,cN A i)]⟩) (fun i hi=>?_) ?_ (by simp)
  ·have hi':(i:Int) < A.length:=by omega
   have k2:A[i]?=some A[i]:=List.getElem?_eq_getElem hi
   have at1:=at_eR k2
   have T:=c_toIntS A[i] (hr _ (List.getElem_mem hi))
   have w1:wr ((i:Int)+1)=(i:Int)+1:=wr_id (by omega) (by omega)
   have c1:=cN_len (A:=A) (i:=i) (by omega)
   have c2:=cN_get hi
   have c3:=cN_set hi k2
   have tk:List.take A[i].length (A[i].map DV.i)=A[i].map .i:=List.take_of_length_le (by simp)
   generalize A[i]=r at *
   simp [F_laws_toIntSS_L0,hi,hi',at1,T,w1,c1,c2,c3,tk]
  ·simp [F_laws_toIntSS_L0]
 have b1:(A.length:Int)≤bound:=by unfold bound; omega
 rw [cN_zero,cN_all] at L
 simp [F_laws_toIntSS,b1,L]
theorem c_eqIntSS_self (A:List (List Int)) (hA:(A.length:Int)≤1048576) (hr:∀ r∈A,(r.length:Int)≤1048576):call lf n_laws_eqIntSS [.sl 0 (A.map eR),.sl 0 (A.map eR)]=some (.b true,[]):=by
 rw [call_k lf n_laws_eqIntSS _ (F:=F_laws_eqIntSS) rfl rfl]
 have L:ex lf F_laws_eqIntSS_W0 ⟨[(0,.sl 0 (A.map eR)),(1,.sl 0 (A.map eR)),(5,.i 0)],[]⟩=some (.exit 0,⟨[(0,.sl 0 (A.map eR)),(1,.sl 0 (A.map eR)),(5,.i A.length)],[]⟩):=by
  refine loop_count A.length (fun i=>⟨[(0,.sl 0 (A.map eR)),(1,.sl 0 (A.map eR)),(5,.i i)],[]⟩) (fun i hi=>?_) ?_ (by simp)
  ·have hi':(i:Int) < A.length:=by omega
   have k2:A[i]?=some A[i]:=List.getElem?_eq_getElem hi
   have at1:=at_eR k2
   have T:=c_eqIntS_self A[i] (hr _ (List.getElem_mem hi))
   have w1:wr ((i:Int)+1)=(i:Int)+1:=wr_id (by omega) (by omega)
   generalize A[i]=r at *
   simp [F_laws_eqIntSS_L0,hi,hi',at1,T,w1]
  ·simp [F_laws_eqIntSS_L0]
 simp [F_laws_eqIntSS,L]
end
section
attribute [-simp] DV.cells
attribute [local simp] sliceD cells_st cells_sl cells_i cells_y cells_b cells_s cells_w
attribute [local simp] lend_eR al_eR lend_eN adopt_eN new_eN
abbrev oF (w:Go.World) (t:Nat) (d:DV):Fact:=⟨t,w.heap.size,fun b=>b < w.heap.size,d⟩
abbrev nF (w w':Go.World) (t:Nat) (d:DV):Fact:=⟨t,w.heap.size,fun b=>w.heap.size≤b∧b < w'.heap.size,d⟩
theorem mk1_marks (k:Int) (n:Nat):mk1 k n=(marksI k n).map .i:=by simp [mk1,marksI]
set_option maxHeartbeats 4000000 in
theorem cut_markIntS (xs:List Int) (n:Nat) (k:Int) (k0:0≤k) (k1:k≤1000000000) (hn:n≤1048576) (hl:n≤xs.length):∃ S,ex lf F_laws_markIntS.body ⟨[(0,.own 15 xs.length 0 n),(1,.i k)],[(15,xs.map .i)]⟩=some (.ret,S)∧resV S F_laws_markIntS.results=some [.i (k+n)]∧lookO S.ob 15=some ((marksI k n++xs.drop n).map .i):=by
 have L:=loop_count (lf:=lf) (L:=F_laws_markIntS_L0) n (fun i=>⟨[(0,.own 15 xs.length 0 n),(1,.i (k+i)),(5,.i i)],[(15,mk1 k i++(xs.map .i).drop i)]⟩) (x:=.exit 0) (R:=⟨[(0,.own 15 xs.length 0 n),(1,.i (k+n)),(5,.i n)],[(15,mk1 k n++(xs.map .i).drop n)]⟩) (fun i hi=>by
  have w1:wr ((i:Int)+1)=(i:Int)+1:=wr_id (by omega) (by omega)
  have w2:wr (k+i+1)=k+(i+1:Nat):=by rw [wr_id (by omega) (by omega)]; omega
  have hi':(i:Int) < n:=by omega
  have hix:i < xs.length:=by omega
  have hix':(i:Int) < xs.length:=by omega
  have e:=split_at (es:=xs.map DV.i) (i:=i) (by simpa using hix)
  rw [List.getElem_map] at e
  rw [mk1_succ,e]
  have hA:=mk1_len k i
  have lB:(List.drop (i+1) (xs.map DV.i)).length=xs.length - (i+1):=by simp
  generalize xs[i]=x at *
  generalize List.drop (i+1) (xs.map DV.i)=B at *
  generalize mk1 k i=A at *
  have q1:=mid_at (B:=B) hA
  have q2:=mid_set (B:=B) hA
  have q3:∀ x:DV,(A++x :: B).length=xs.length:=fun x=>by simp [hA,lB]; omega
  rw [show A++[DV.i (k+↑i)]++B=A++DV.i (k+↑i) :: B by simp]
  have tl:(List.take n (A++DV.i x :: B)).length=n:=by rw [List.length_take,q3]; omega
  simp [F_laws_markIntS_L0,hi,hi',hix,hix',hl,w1,w2,q1,q2,q3,tl,-List.length_append,-List.length_cons]) (by
  have lm:(mk1 k n++List.drop n (xs.map DV.i)).length=xs.length:=by rw [List.length_append,mk1_len,List.length_drop,List.length_map]; omega
  have tl:(List.take n (mk1 k n++List.drop n (xs.map DV.i))).length=n:=by rw [List.length_take,lm]; omega
  generalize mk1 k n++List.drop n (xs.map DV.i)=Z at *
  simp [F_laws_markIntS_L0,lm,tl,hl]) (by simp)
 have z:mk1 k 0++(xs.map DV.i).drop 0=xs.map .i:=by simp [mk1]
 rw [z] at L
 have L':ex lf F_laws_markIntS_W0 ⟨[(0,.own 15 xs.length 0 n),(1,.i k),(5,.i 0)],[(15,xs.map .i)]⟩=some (.exit 0,⟨[(0,.own 15 xs.length 0 n),(1,.i (k+n)),(5,.i n)],[(15,mk1 k n++(xs.map .i).drop n)]⟩):=by
  have:=L
  simp only [Int.natCast_zero,Int.add_zero] at this
  exact this
 have fin:mk1 k n++(xs.map DV.i).drop n=(marksI k n++xs.drop n).map .i:=by rw [mk1_marks,List.map_append,List.map_drop]
 rw [fin] at L'
 generalize (marksI k n++xs.drop n).map DV.i=Z at *
 simp [F_laws_markIntS,L',resV]
theorem nil_markIntS (k:Int):call lf n_laws_markIntS [.sl 0 [],.i k]=some (.i k,[]):=by
 rw [call_k lf n_laws_markIntS _ (F:=F_laws_markIntS) rfl rfl]
 have L:ex lf F_laws_markIntS_W0 ⟨[(0,.sl 0 []),(1,.i k),(5,.i 0)],[]⟩=some (.exit 0,⟨[(0,.sl 0 []),(1,.i k),(5,.i 0)],[]⟩):=by
  rw [w_laws_markIntS_0]
  simp [F_laws_markIntS_L0]
 simp [F_laws_markIntS,L]
theorem body_of {P:Go.Program} {dc:Array Go.Oper→Bool} (hok:∀ f F,lf f=some F→OkF P dc f F) (hD:∀ Γ,FnSound P Γ→DrawOk P Γ dc) (hB:BackSound P) {f:Nat} {args:List DV} {r:DV×List DV} (h:call lf f args=some r):hasBody P f=true:=by
 obtain ⟨n,hn⟩:=call_iff.1 h
 exact (callN_sound hok hD hB n f args r hn).1
theorem row_markIntS {P:Go.Program} {dc:Array Go.Oper→Bool} (hok:∀ f F,lf f=some F→OkF P dc f F) (hD:∀ Γ,FnSound P Γ→DrawOk P Γ dc) (hB:BackSound P) (k:Int) (n:Nat) (k0:0≤k) (k1:k≤1000000000) (hn:n≤1048576):MarksRow P n_laws_markIntS k n:=by
 have hb:=body_of hok hD hB (nil_markIntS k)
 exact ⟨hb,fun _=>marks_nil hb (call_sound hok hD hB (nil_markIntS k)),fun _=>marks_cut hok hD hB (F:=F_laws_markIntS) rfl rfl rfl rfl (by omega) (fun rs hl=>by
  obtain ⟨S,h1,h2,h3⟩:=cut_markIntS rs n k k0 k1 hn hl
  exact ⟨.ret,S,.inr rfl,h1,h2,h3⟩) hb⟩
theorem totR_flat:∀ L:List (List Int),totR L=L.flatten.length
 | []=>rfl
 | r :: L=>by simp only [totR,List.flatten_cons,List.length_append,totR_flat L]
theorem totR_take:∀ (rs:List (List Int)) (i:Nat),totR (rs.take i)≤totR rs
 | [],i=>by simp [totR]
 | r :: rs,0=>by simp [totR]
 | r :: rs,i+1=>by
  have:=totR_take rs i
  simp only [List.take_succ_cons,totR]
  omega
theorem totR_mem:∀ (rs:List (List Int)) (i:Nat) (r:List Int),rs[i]?=some r→r.length≤totR rs
 | [],i,r,h=>by simp at h
 | s :: rs,0,r,h=>by
  simp only [List.getElem?_cons_zero,Option.some.injEq] at h
  subst h
  simp only [totR]
  omega
 | s :: rs,i+1,r,h=>by
  have:=totR_mem rs i r (by simpa using h)
  simp only [totR]
  omega
theorem rows_markIntSS {P:Go.Program} {dc:Array Go.Oper→Bool} (hok:∀ f F,lf f=some F→OkF P dc f F) (hD:∀ Γ,FnSound P Γ→DrawOk P Γ dc) (hB:BackSound P) (rs:List (List Int)) (k:Int) (k0:0≤k) (k1:k≤100000000) (hn:rs.length≤1048576) (ht:totR rs≤1048576) :
  Marks P n_laws_markIntSS (dRs rs) k (fun d=>∃ ss,d=dRs ss∧ss.map List.length=rs.map List.length∧(Dst rs→ss=mrkR k rs)) (k+totR rs) :=
 marks_rows hok hD hB (F:=F_laws_markIntSS) rfl rfl rfl rfl rfl hn (fun i r hr=>row_markIntS hok hD hB _ _ (by omega) (by have:=totR_take rs i; omega) (by have:=totR_mem rs i r hr; omega))
theorem flat_e2:∀ xs:List T,flat (xs.map e2)=xs.flatMap fun x=>[DV.i x.1,.i x.2]
 | []=>rfl
 | x :: xs=>by rw [List.map_cons,flat_cons,flat_e2 xs]; rfl
theorem ints_e2 (xs:List T):intsC (flat (xs.map e2)):=by
 rw [flat_e2]
 intro c hc
 obtain ⟨x,_,hx⟩:=List.mem_flatMap.1 hc
 simp only [List.mem_cons,List.not_mem_nil,or_false] at hx
 rcases hx with rfl | rfl
 ·exact ⟨_,rfl⟩
 ·exact ⟨_,rfl⟩
theorem nil_markTestS (k:Int):call lf n_laws_markTestS [.sl 0 [],.i k]=some (.i k,[]):=by
 rw [call_k lf n_laws_markTestS _ (F:=F_laws_markTestS) rfl rfl]
 have L:ex lf F_laws_markTestS_W0 ⟨[(0,.sl 0 []),(1,.i k),(5,.i 0)],[]⟩=some (.exit 0,⟨[(0,.sl 0 []),(1,.i k),(5,.i 0)],[]⟩):=by
  rw [w_laws_markTestS_0]
  simp [F_laws_markTestS_L0]
 simp [F_laws_markTestS,L]
theorem row_markTestS {P:Go.Program} {dc:Array Go.Oper→Bool} (hok:∀ f F,lf f=some F→OkF P dc f F) (hD:∀ Γ,FnSound P Γ→DrawOk P Γ dc) (hB:BackSound P) (xs:List T) (k:Int) (k0:0≤k) (k1:k≤1000000000) (hl:xs.length≤1048576):Marks P n_laws_markTestS (.sl 1 (xs.map e2)) k (fun _=>True) (k+2 * xs.length):=by
 have hb:=body_of hok hD hB (nil_markTestS k)
 by_cases h:xs=[]
 ·subst h
  have:=(marks_nil hb (call_sound hok hD hB (nil_markTestS k))).mono (R':=fun _=>True) (fun _ _=>trivial)
  simpa using this
 ·obtain ⟨u,e,_⟩:=mk2_map k xs.length
  have C:=call_sound hok hD hB (c_markTestS xs k k0 k1 hl)
  rw [e] at C
  exact (marks_flat hb C (by simpa using h) (fun e he=>by
   obtain ⟨x,_,rfl⟩:=List.mem_map.1 he
   rfl) ⟨by omega,by omega⟩ (ints_e2 xs) (ints_e2 u)).mono (fun _ _=>trivial)
end
section
attribute [local simp] lend_e3 adopt_e3 new_e3 al_e3 lt_e3
theorem at3 {ts:List C3} {i:Nat} (hi:i < ts.length):∃ t,ts[i]?=some t∧atI (ts.map e3) i=some (.st [.i t.1,.i t.2.1,.i t.2.2])∧ts.take (i+1)=ts.take i++[t]:=by
 refine ⟨ts[i],List.getElem?_eq_getElem hi,?_,List.take_succ_eq_append_getElem hi⟩
 exact at_e3 (List.getElem?_eq_getElem hi)
theorem c_eqChoice (t:C3):call lf n_laws_eqChoice [e3 t,e3 t]=some (.b true,[]):=by
 rw [call_k lf n_laws_eqChoice _ (F:=F_laws_eqChoice) rfl rfl]
 simp [F_laws_eqChoice,e3]
theorem c_eqChoiceS_self (aS:List C3) (ha:(aS.length:Int)≤1048576):call lf n_laws_eqChoiceS [.sl 0 (aS.map e3),.sl 0 (aS.map e3)]=some (.b true,[]):=by
 rw [call_k lf n_laws_eqChoiceS _ (F:=F_laws_eqChoiceS) rfl rfl]
 have L:ex lf F_laws_eqChoiceS_W0 ⟨[(0,.sl 0 (aS.map e3)),(1,.sl 0 (aS.map e3)),(5,.i 0)],[]⟩=some (.exit 0,⟨[(0,.sl 0 (aS.map e3)),(1,.sl 0 (aS.map e3)),(5,.i aS.length)],[]⟩):=by
  refine loop_count aS.length (fun i=>⟨[(0,.sl 0 (aS.map e3)),(1,.sl 0 (aS.map e3)),(5,.i i)],[]⟩) (fun i hi=>?_) ?_ (by simp)
  ·obtain ⟨t,q1,q3,q4⟩:=at3 hi
   have w1:wr ((i:Int)+1)=(i:Int)+1:=wr_id (by omega) (by omega)
   have C:=c_eqChoice t
   simp only [e3] at C
   simp [F_laws_eqChoiceS_L0,hi,q3,w1,C]
  ·simp [F_laws_eqChoiceS_L0]
 simp [F_laws_eqChoiceS,L]
def mk3 (k:Int) (n:Nat):List DV:=(List.range n).map fun (j:Nat)=>DV.st [.i (k+3 * (j:Int)),.i (k+3 * (j:Int)+1),.i (k+3 * (j:Int)+2)]
theorem mk3_len (k:Int) (n:Nat):(mk3 k n).length=n:=by simp [mk3]
theorem mk3_succ (k:Int) (n:Nat):mk3 k (n+1)=mk3 k n++[.st [.i (k+3 * n),.i (k+3 * n+1),.i (k+3 * n+2)]]:=by simp [mk3,List.range_succ]
set_option maxHeartbeats 4000000 in
theorem c_markChoiceS (xs:List C3) (k:Int) (k0:0≤k) (k1:k≤1000000000) (hl:xs.length≤1048576):call lf n_laws_markChoiceS [.fr 3 (xs.map e3),.i k]=some (.i (k+3 * xs.length),[.fr 3 (mk3 k xs.length)]):=by
 rw [call_k lf n_laws_markChoiceS _ (F:=F_laws_markChoiceS) rfl rfl]
 have L:=loop_count (lf:=lf) (L:=F_laws_markChoiceS_L0) xs.length (fun i=>⟨[(0,.own 31 xs.length 0 xs.length),(1,.i (k+3 * i)),(5,.i i)],[(31,mk3 k i++(xs.map e3).drop i)]⟩) (x:=.exit 0) (R:=⟨[(0,.own 31 xs.length 0 xs.length),(1,.i (k+3 * xs.length)),(5,.i xs.length)],[(31,mk3 k xs.length++(xs.map e3).drop xs.length)]⟩) (fun i hi=>by
  have w1:wr ((i:Int)+1)=(i:Int)+1:=wr_id (by omega) (by omega)
  have w2:wr (k+3 * i+1)=k+3 * i+1:=wr_id (by omega) (by omega)
  have w3:wr (k+3 * i+1+1)=k+3 * i+2:=by rw [wr_id (by omega) (by omega)]; omega
  have w4:wr (k+3 * i+2+1)=k+3 * (i+1:Nat):=by rw [wr_id (by omega) (by omega)]; omega
  have hi':(i:Int) < xs.length:=by omega
  have e:=split_at (es:=xs.map e3) (i:=i) (by simpa using hi)
  rw [List.getElem_map] at e
  rw [mk3_succ,e]
  have hA:=mk3_len k i
  have lB:(List.drop (i+1) (xs.map e3)).length=xs.length - (i+1):=by simp
  generalize xs[i]=x at *
  generalize List.drop (i+1) (xs.map e3)=B at *
  generalize mk3 k i=A at *
  have q1:=mid_at (B:=B) hA
  have q2:=mid_set (B:=B) hA
  have q3:∀ x:DV,(A++x :: B).length=xs.length:=fun x=>by simp [hA,lB]; omega
  rw [show A++[DV.st [DV.i (k+3 * ↑i),DV.i (k+3 * ↑i+1),DV.i (k+3 * ↑i+2)]]++B=A++DV.st [DV.i (k+3 * ↑i),DV.i (k+3 * ↑i+1),DV.i (k+3 * ↑i+2)] :: B by simp]
  have q4:∀ a b c:DV,1≤[a,b,c].length:=fun a b c=>by simp
  have q5:∀ a b c:DV,2≤[a,b,c].length:=fun a b c=>by simp
  have q6:∀ a b c:DV,3≤[a,b,c].length:=fun a b c=>by simp
  simp [F_laws_markChoiceS_L0,e3,hi,hi',w1,w2,w3,w4,q1,q2,q3,q4,q5,q6,-List.length_append,-List.length_cons]) (by
  have lm:=mk3_len k xs.length
  simp [F_laws_markChoiceS_L0,lm]) (by simp)
 have z:mk3 k 0++(xs.map e3).drop 0=xs.map e3:=by simp [mk3]
 rw [z] at L
 have zn:mk3 k xs.length++(xs.map e3).drop xs.length=mk3 k xs.length:=by simp
 rw [zn] at L
 have L':ex lf F_laws_markChoiceS_W0 ⟨[(0,.own 31 xs.length 0 xs.length),(1,.i k),(5,.i 0)],[(31,xs.map e3)]⟩=some (.exit 0,⟨[(0,.own 31 xs.length 0 xs.length),(1,.i (k+3 * xs.length)),(5,.i xs.length)],[(31,mk3 k xs.length)]⟩):=by
  have:=L
  simp only [Int.natCast_zero,Int.mul_zero,Int.add_zero] at this
  exact this
 have lm:=mk3_len k xs.length
 simp [F_laws_markChoiceS,L',lm]
set_option maxHeartbeats 4000000 in
theorem c_heldChoiceS (n:Nat) (k:Int) (k0:0≤k) (k1:k≤1000000000) (hl:n≤1048576):call lf n_laws_heldChoiceS [.sl 0 (mk3 k n),.i k]=some (.i (k+3 * n),[]):=by
 rw [call_k lf n_laws_heldChoiceS _ (F:=F_laws_heldChoiceS) rfl rfl]
 have lm:=mk3_len k n
 have A:∀ i,i < n→atI (mk3 k n) (i:Int)=some (.st [.i (k+3 * i),.i (k+3 * i+1),.i (k+3 * i+2)]):=fun i hi=>by simp [atI,mk3,hi]
 generalize mk3 k n=es at *
 have L:=loop_count (lf:=lf) (L:=F_laws_heldChoiceS_L0) n (fun i=>⟨[(0,.sl 0 es),(1,.i (k+3 * i)),(5,.i i)],[]⟩) (x:=.exit 0) (R:=⟨[(0,.sl 0 es),(1,.i (k+3 * n)),(5,.i n)],[]⟩) (fun i hi=>by
  have w1:wr ((i:Int)+1)=(i:Int)+1:=wr_id (by omega) (by omega)
  have w2:wr (k+3 * i+1)=k+3 * i+1:=wr_id (by omega) (by omega)
  have w3:wr (k+3 * i+1+1)=k+3 * i+2:=by rw [wr_id (by omega) (by omega)]; omega
  have w4:wr (k+3 * i+2+1)=k+3 * (i+1:Nat):=by rw [wr_id (by omega) (by omega)]; omega
  have hi':(i:Int) < n:=by omega
  have q:=A i hi
  simp [F_laws_heldChoiceS_L0,hi,hi',w1,w2,w3,w4,lm,q]) (by
  simp [F_laws_heldChoiceS_L0,lm]) (by simp)
 have L':ex lf F_laws_heldChoiceS_W0 ⟨[(0,.sl 0 es),(1,.i k),(5,.i 0)],[]⟩=some (.exit 0,⟨[(0,.sl 0 es),(1,.i (k+3 * n)),(5,.i n)],[]⟩):=by
  have:=L
  simp only [Int.natCast_zero,Int.mul_zero,Int.add_zero] at this
  exact this
 simp [F_laws_heldChoiceS,L']
end
section
attribute [-simp] DV.cells
attribute [local simp] sliceD cells_st cells_sl cells_i cells_y cells_b cells_s cells_w
def mkC (k:Int) (n:Nat):List C3:=(List.range n).map fun (j:Nat)=>(k+3 * (j:Int),k+3 * (j:Int)+1,k+3 * (j:Int)+2)
theorem mk3_mkC (k:Int) (n:Nat):mk3 k n=(mkC k n).map e3:=by simp [mk3,mkC,e3]
theorem nil_markChoiceS (k:Int):call lf n_laws_markChoiceS [.sl 0 [],.i k]=some (.i k,[]):=by
 rw [call_k lf n_laws_markChoiceS _ (F:=F_laws_markChoiceS) rfl rfl]
 have L:ex lf F_laws_markChoiceS_W0 ⟨[(0,.sl 0 []),(1,.i k),(5,.i 0)],[]⟩=some (.exit 0,⟨[(0,.sl 0 []),(1,.i k),(5,.i 0)],[]⟩):=by
  rw [w_laws_markChoiceS_0]
  simp [F_laws_markChoiceS_L0]
 simp [F_laws_markChoiceS,L]
theorem ints_e3:∀ xs:List C3,intsC (flat (xs.map e3))
 | [],c,hc=>by simp [flat] at hc
 | x :: xs,c,hc=>by
  rw [List.map_cons,flat_cons] at hc
  rcases List.mem_append.1 hc with h | h
  ·simp only [e3,DV.cells,List.mem_cons,List.not_mem_nil,or_false] at h
   rcases h with rfl | rfl | rfl
   ·exact ⟨_,rfl⟩
   ·exact ⟨_,rfl⟩
   ·exact ⟨_,rfl⟩
  ·exact ints_e3 xs c h
theorem row_markChoiceS {P:Go.Program} {dc:Array Go.Oper→Bool} (hok:∀ f F,lf f=some F→OkF P dc f F) (hD:∀ Γ,FnSound P Γ→DrawOk P Γ dc) (hB:BackSound P) (xs:List C3) (k:Int) (k0:0≤k) (k1:k≤1000000000) (hl:xs.length≤1048576):Marks P n_laws_markChoiceS (.sl 1 (xs.map e3)) k (·=.sl 1 ((mkC k xs.length).map e3)) (k+3 * xs.length):=by
 have hb:=body_of hok hD hB (nil_markChoiceS k)
 by_cases h:xs=[]
 ·subst h
  have:=marks_nil hb (call_sound hok hD hB (nil_markChoiceS k))
  simpa [mkC] using this
 ·have C:=call_sound hok hD hB (c_markChoiceS xs k k0 k1 hl)
  rw [mk3_mkC] at C
  exact marks_flat hb C (by simpa using h) (fun e he=>by
   obtain ⟨x,_,rfl⟩:=List.mem_map.1 he
   rfl) ⟨by omega,by omega⟩ (ints_e3 xs) (ints_e3 _)
end
section
attribute [-simp] DV.cells
attribute [local simp] sliceD cells_st cells_sl cells_i cells_y cells_b cells_s cells_w
attribute [local simp] lend_eR al_eR
def ni (l:List Nat):List Int:=l.map fun k:Nat=>(k:Int)
theorem ni_len (l:List Nat):(ni l).length=l.length:=by simp [ni]
theorem ni_toNat (l:List Nat):(ni l).map Int.toNat=l:=by
 unfold ni
 rw [List.map_map]
 conv=>rhs; rw [← List.map_id l]
 apply List.map_congr_left
 intro k _
 simp
theorem ni_app (p q:List Nat):ni (p++q)=ni p++ni q:=by simp [ni]
theorem prR_grN (us:List T):∀ (g:List Nat) (on:Int),prR us 1 on (ni g)=on * grN us g
 | [],on=>by simp [ni,prR,grN]
 | k :: r,on=>by
  have e:eA us 1 k=pA us k:=by unfold eA pA; simp
  show prR us 1 (on * (6 - eA us 1 ((k:Nat):Int).toNat)) (ni r)=_
  rw [prR_grN us r,Int.toNat_natCast,e,grN,Int.mul_assoc]
theorem atT {us:List T} {k:Nat} (hk:k < us.length):atI (us.map e2) (k:Int)=some (.st [.i (cA us k),.i (pA us k)]):=by
 simp only [atI,if_pos (Int.natCast_nonneg k)]
 show (us.map e2)[(k:Int).toNat]?=_
 rw [Int.toNat_natCast,List.getElem?_map,List.getElem?_eq_getElem hk]
 unfold cA pA
 simp [List.getD,hk,e2]
theorem cA_bd {us:List T} (h:us.all tOk=true) {k:Nat} (hk:k < us.length):1≤cA us k∧cA us k≤9:=by
 have:=tOk_iff.1 (List.all_eq_true.1 h us[k] (List.getElem_mem hk))
 unfold cA
 simp only [List.getD,List.getElem?_eq_getElem hk,Option.getD_some]
 exact this.1
def stLc (us:List T) (g:List Nat) (sum on:Int) (k:Nat):LS:=⟨[(0,.sl 0 (us.map e2)),(1,.sl 0 ((ni g).map .i)),(6,.i sum),(7,.i on),(8,.i k)],[]⟩
set_option maxHeartbeats 4000000 in
theorem cost_loop {us:List T} (h:us.all tOk=true) (g:List Nat) (h5:g.length≤5) (hg:∀ k∈g,k < us.length):∀ (rest:List Nat) (k:Nat) (on sum:Int),0≤on→on≤6 ^ k→0≤sum→sum≤70000 * k→k+rest.length=g.length→g.drop k=rest →
  ex lf F_spec_l7Cost_W0 (stLc us g sum on k)=some (.exit 0,stLc us g (sum+rA us 1 on (ni rest)) (prR us 1 on (ni rest)) g.length):=by
 intro rest
 induction rest with
 | nil =>
  intro k on sum n0 n1 s0 s1 hn hd
  have e:k=g.length:=by simpa using hn
  subst e
  rw [w_spec_l7Cost_0]
  simp [stLc,F_spec_l7Cost_L0,ni,rA,prR]
 | cons a rest ih0 =>
  intro k on sum n0 n1 s0 s1 hn hd
  obtain ⟨k1,k2,k3⟩:=drop_cons hd
  have ha:a < us.length:=hg a (List.mem_of_getElem? k2)
  have k1':(k:Int) < g.length:=by omega
  have k2':(ni g)[k]?=some (a:Int):=by unfold ni; rw [List.getElem?_map,k2]; rfl
  have at1:=atI_int k2'
  have at2:=atT ha
  have cb:=cA_bd h ha
  have pb:=pA_bd h ha
  have hl:rest.length+1=g.length - k:=by simp at hn; omega
  have pp:=p6le (i:=k) (j:=rest.length+1) (by omega) n0 n1
  have pk:=p6 (n:=k) (by omega)
  have C:=c_spec_l1Power (n:=rest.length+1) (by omega)
  have w1:wr ((g.length:Int) - k)=((rest.length+1:Nat):Int):=by rw [wr_id (by omega) (by omega)]; omega
  have m1:0≤cA us a * on∧cA us a * on≤9 * 7776:=⟨Int.mul_nonneg (by omega) n0,Int.mul_le_mul (by omega) (by omega) n0 (by omega)⟩
  have w2:wr (cA us a * on)=cA us a * on:=wr_id (by omega) (by omega)
  have m2:0≤cA us a * on * 6 ^ (rest.length+1)∧cA us a * on * 6 ^ (rest.length+1)≤9 * 7776:=by
   rw [Int.mul_assoc]
   exact ⟨Int.mul_nonneg (by omega) pp.1,Int.mul_le_mul (by omega) pp.2 pp.1 (by omega)⟩
  have w3:wr (cA us a * on * 6 ^ (rest.length+1))=cA us a * on * 6 ^ (rest.length+1):=wr_id (by omega) (by omega)
  have w4:wr (sum+cA us a * on * 6 ^ (rest.length+1))=sum+cA us a * on * 6 ^ (rest.length+1):=wr_id (by omega) (by omega)
  have w5:wr (6 - pA us a)=6 - pA us a:=wr_id (by omega) (by omega)
  have m3:0≤on * (6 - pA us a)∧on * (6 - pA us a)≤6 ^ (k+1):=by
   refine ⟨Int.mul_nonneg n0 (by omega),?_⟩
   rw [Int.pow_succ]
   exact Int.mul_le_mul n1 (by omega) (by omega) (by omega)
  have pk1:=p6 (n:=k+1) (by omega)
  have w6:wr (on * (6 - pA us a))=on * (6 - pA us a):=wr_id (by omega) (by omega)
  have w7:=wr_succ (k:=k) (by omega)
  have I:=ih0 (k+1) (on * (6 - pA us a)) (sum+cA us a * on * 6 ^ (rest.length+1)) m3.1 m3.2 (by omega) (by omega) (by simp at hn; omega) k3
  have ea:eA us 1 a=pA us a:=by unfold eA pA; simp
  have e:sum+rA us 1 on (ni (a :: rest))=sum+cA us a * on * 6 ^ (rest.length+1)+rA us 1 (on * (6 - pA us a)) (ni rest):=by
   simp only [ni,List.map_cons,rA,List.length_map,Int.toNat_natCast,ea]; omega
  have e':prR us 1 on (ni (a :: rest))=prR us 1 (on * (6 - pA us a)) (ni rest):=by
   simp only [ni,List.map_cons,prR,Int.toNat_natCast,ea]
  rw [w_spec_l7Cost_0,e,e']
  unfold stLc at *
  have nl:=ni_len g
  generalize (6:Int) ^ (rest.length+1)=P at *
  generalize rA us 1 _ (ni rest)=Z at *
  generalize prR us 1 _ (ni rest)=Y at *
  generalize cA us a=c at *
  generalize pA us a=q at *
  simp [F_spec_l7Cost_L0,k1,k1',nl,at1,at2,ha,C,w1,w2,w3,w4,w5,w6,w7,I,-Int.natCast_add]
theorem c_spec_l7Cost {us:List T} (h:tsOk us=true) {g:List Nat} (h5:g.length≤5) (hg:∀ k∈g,k < us.length) :
  call lf n_spec_l7Cost [.sl 0 (us.map e2),.sl 0 ((ni g).map .i)]=some (.tup [.i (gD (g.map (itT us))),.i (grN us g)],[]):=by
 rw [call_k lf n_spec_l7Cost _ (F:=F_spec_l7Cost) rfl rfl]
 have h':=tsOk_iff.1 h
 have I:=cost_loop h'.2 g h5 hg g 0 1 0 (by omega) (by omega) (by omega) (by omega) (by omega) rfl
 rw [rA_gD,prR_grN,ni_toNat,Int.one_mul,Int.one_mul,Int.zero_add] at I
 unfold stLc at I
 simp only [Int.natCast_zero] at I
 simp [F_spec_l7Cost,I]
def posT (us:List T) (k:Nat):List Nat→Nat
 | []=>0
 | o :: r=>if cA us k * pA us o < cA us o * pA us k∨cA us o * pA us k=cA us k * pA us o∧k < o then 0 else posT us k r+1
theorem posT_le (us:List T) (k:Nat):∀ l:List Nat,posT us k l≤l.length
 | []=>Nat.le_refl _
 | o :: r=>by
  have:=posT_le us k r
  simp only [posT,List.length_cons]
  split <;> omega
theorem insT_pos (us:List T) (k:Nat):∀ l:List Nat,insT us k l=l.take (posT us k l)++k :: l.drop (posT us k l)
 | []=>rfl
 | o :: r=>by
  simp only [insT,posT]
  split
  ·simp
  ·rw [insT_pos us k r]; simp
def stIi (us:List T) (G:List Nat) (i:Nat) (L:List Nat) (a:Nat):LS:=⟨[(0,.sl 0 (us.map e2)),(1,.sl 0 ((ni G).map .i)),(5,.own 5640 L.length 0 L.length),(6,.i i),(7,.i a)],[(5640,(ni L).map .i)]⟩
theorem at_ni {L:List Nat} {j k:Nat} (h:L[j]?=some k):atI ((ni L).map DV.i) (j:Int)=some (.i k)∧atN ((ni L).map DV.i) j=some (.i k):=by
 have h':(ni L)[j]?=some (k:Int):=by unfold ni; rw [List.getElem?_map,h]; rfl
 refine ⟨atI_int h',?_⟩
 show ((ni L).map DV.i)[j]?=_
 rw [List.getElem?_map,h']; rfl
set_option maxHeartbeats 8000000 in
theorem in_inner {us:List T} (h:us.all tOk=true) {G:List Nat} {i k:Nat} (hi:G[i]?=some k) (hk:k < us.length) (L:List Nat) (hL:L.length≤5) (hm:∀ o∈L,o < us.length):∀ (r p:List Nat),L=p++r →
  ex lf F_spec_l7Inside_W1 (stIi us G i L p.length)=some (.exit 2,stIi us G i L (p.length+posT us k r)):=by
 intro r
 induction r with
 | nil =>
  intro p hp
  have e:p.length=L.length:=by rw [hp]; simp
  rw [w_spec_l7Inside_1,e]
  simp [stIi,F_spec_l7Inside_L1,posT]
 | cons o r ih =>
  intro p hp
  have lp:p.length < L.length:=by rw [hp]; simp
  have ho:=hm o (by rw [hp]; simp)
  obtain ⟨ao,an⟩:=at_ni (L:=L) (j:=p.length) (k:=o) (by rw [hp]; simp)
  obtain ⟨bo,bn⟩:=at_ni hi
  have hiG:(i:Int) < G.length:=by have:=(List.getElem?_eq_some_iff.1 hi).1; omega
  have t1:=atT ho
  have t2:=atT hk
  have c1:=cA_bd h ho
  have c2:=cA_bd h hk
  have p1:=pA_bd h ho
  have p2:=pA_bd h hk
  have m1:0≤cA us o * pA us k∧cA us o * pA us k≤9 * 5:=⟨Int.mul_nonneg (by omega) (by omega),Int.mul_le_mul (by omega) (by omega) (by omega) (by omega)⟩
  have m2:0≤cA us k * pA us o∧cA us k * pA us o≤9 * 5:=⟨Int.mul_nonneg (by omega) (by omega),Int.mul_le_mul (by omega) (by omega) (by omega) (by omega)⟩
  have w1:wr (cA us o * pA us k)=cA us o * pA us k:=wr_id (by omega) (by omega)
  have w2:wr (cA us k * pA us o)=cA us k * pA us o:=wr_id (by omega) (by omega)
  have w3:=wr_succ (k:=p.length) (by omega)
  have I:=ih (p++[o]) (by rw [hp]; simp)
  rw [List.length_append,List.length_singleton] at I
  have nl:=ni_len L
  have ng:=ni_len G
  have ok:((k:Int) < (o:Int))=(k < o):=by simp
  rw [w_spec_l7Inside_1]
  simp only [posT]
  unfold stIi at *
  generalize cA us o=x1 at *
  generalize pA us o=x2 at *
  generalize cA us k=y1 at *
  generalize pA us k=y2 at *
  by_cases q1:y1 * x2 < x1 * y2
  ·rw [if_pos (.inl q1)]
   simp [F_spec_l7Inside_L1,lp,ao,an,bo,bn,hiG,ho,hk,t1,t2,w1,w2,w3,nl,ng,q1,-Int.natCast_add]
  ·by_cases q2:x1 * y2=y1 * x2
   ·by_cases q3:k < o
    ·rw [if_pos (.inr ⟨q2,q3⟩)]
     simp [F_spec_l7Inside_L1,lp,ao,an,bo,bn,hiG,ho,hk,t1,t2,w1,w2,w3,nl,ng,q1,q2,q3,-Int.natCast_add]
    ·rw [if_neg (by omega),show p.length+(posT us k r+1)=p.length+1+posT us k r by omega]
     simp [F_spec_l7Inside_L1,lp,ao,an,bo,bn,hiG,ho,hk,t1,t2,w1,w2,w3,nl,ng,q1,q2,q3,I,-Int.natCast_add]
   ·rw [if_neg (by omega),show p.length+(posT us k r+1)=p.length+1+posT us k r by omega]
    have q2':(x1 * y2 == y1 * x2)=false:=by simp [q2]
    simp [F_spec_l7Inside_L1,lp,ao,an,bo,bn,hiG,ho,hk,t1,t2,w1,w2,w3,nl,ng,q1,q2,q2',I,-Int.natCast_add]
end
section
attribute [-simp] DV.cells
attribute [local simp] sliceD cells_st cells_sl cells_i cells_y cells_b cells_s cells_w
attribute [local simp] lend_eR al_eR
def inTi (us:List T) (G:List Nat) (i:Nat):List Nat:=(G.take i).foldl (fun a k=>insT us k a) []
theorem inTi_succ (us:List T) {G:List Nat} {i k:Nat} (h:G[i]?=some k):inTi us G (i+1)=insT us k (inTi us G i):=by
 unfold inTi
 rw [List.take_add_one,h,Option.toList_some,List.foldl_append]
 rfl
theorem inTi_all (us:List T) (G:List Nat):inTi us G G.length=inT us G:=by
 unfold inTi inT
 rw [List.take_length]
theorem inTi_perm (us:List T) (G:List Nat) (i:Nat):(inTi us G i).Perm (G.take i):=by
 have:=inT_permA us (G.take i) []
 rwa [List.nil_append] at this
theorem inTi_len (us:List T) {G:List Nat} {i:Nat} (h:i≤G.length):(inTi us G i).length=i:=by
 rw [(inTi_perm us G i).length_eq,List.length_take]; omega
def stIo (us:List T) (G:List Nat) (K:Nat) (L:List Nat) (i:Nat):LS:=⟨[(0,.sl 0 (us.map e2)),(1,.sl 0 ((ni G).map .i)),(5,.own K L.length 0 L.length),(6,.i i)],[(K,(ni L).map .i)]⟩
set_option maxHeartbeats 8000000 in
theorem in_outer {us:List T} (h:us.all tOk=true) {G:List Nat} (h5:G.length≤5) (hg:∀ k∈G,k < us.length) (j:Nat):∀ (i K:Nat),(K=5640∨K=37384)→i+j=G.length →
  ex lf F_spec_l7Inside_W0 (stIo us G K (inTi us G i) i)=some (.exit 0,stIo us G 5640 (inT us G) G.length):=by
 have ng:=ni_len G
 induction j with
 | zero =>
  intro i K hK hi
  have e:i=G.length:=by omega
  subst e
  rw [w_spec_l7Inside_0,inTi_all]
  rcases hK with rfl | rfl <;> simp [stIo,F_spec_l7Inside_L0,ng,ni_len]
 | succ j ih =>
  intro i K hK hi
  have k2:=ih (i+1) 37384 (.inr rfl) (by omega)
  have hlt:i < G.length:=by omega
  obtain ⟨k,hk⟩:∃ k,G[i]?=some k:=⟨_,List.getElem?_eq_getElem hlt⟩
  have hkm:=hg k (List.mem_of_getElem? hk)
  have ll:=inTi_len us (G:=G) (i:=i) (by omega)
  have I:=in_inner h hk hkm (inTi us G i) (by omega) (fun o ho=>hg o (List.mem_of_mem_take ((inTi_perm us G i).mem_iff.1 ho))) (inTi us G i) [] rfl
  have pl:=posT_le us k (inTi us G i)
  rw [inTi_succ us hk,insT_pos] at k2
  rw [List.length_nil,Nat.zero_add] at I
  obtain ⟨bo,bn⟩:=at_ni hk
  generalize posT us k (inTi us G i)=a at *
  generalize inTi us G i=L at *
  generalize inT us G=R at *
  obtain ⟨x,y,rfl,rfl⟩:∃ x y,L=x++y∧x.length=a:=⟨L.take a,L.drop a,(List.take_append_drop a L).symm,by simp; omega⟩
  have s1:(x++y).take x.length=x:=by simp
  have s2:(x++y).drop x.length=y:=by simp
  rw [s1,s2] at k2
  have lxy:x.length+y.length=i:=by simpa using ll
  have w1:=wr_succ (k:=i) (by omega)
  have c1:x.length≤bound:=by unfold bound; omega
  have c2:x.length+1≤bound:=by unfold bound; omega
  have c3:i+1≤bound:=by unfold bound; omega
  have xi:x.length≤i:=by omega
  have nx:=ni_len x
  have ny:=ni_len y
  have hlt':(i:Int) < G.length:=by omega
  have t1:((ni (x++y)).map DV.i).take x.length=(ni x).map .i:=by rw [ni_app,List.map_append]; exact List.take_left' (by simp [ni_len])
  have t2:((ni (x++y)).map DV.i).drop x.length=(ni y).map .i:=by rw [ni_app,List.map_append]; exact List.drop_left' (by simp [ni_len])
  have hL:((ni (x++y)).map DV.i).length=i:=by simp [ni_len]; omega
  have t4:List.take i ((ni (x++y)).map DV.i)=(ni (x++y)).map DV.i:=List.take_of_length_le (by omega)
  have e1:x.length+1+y.length=i+1:=by omega
  have e3:x.length+(y.length+1)=i+1:=by omega
  have n0:¬ (i < x.length):=by omega
  have ek:ni (x++k :: y)=ni x++(k:Int) :: ni y:=by simp [ni]
  unfold stIo stIi at *
  rw [ll] at I ⊢
  simp only [Int.natCast_zero] at I
  rw [w_spec_l7Inside_0]
  simp only [List.length_append,List.length_cons,ek,List.map_append,List.map_cons,e3] at k2
  generalize (ni (x++y)).map DV.i=M at *
  rcases hK with rfl | rfl <;> simp [F_spec_l7Inside_L0,hlt,hlt',ng,bo,I,w1,hL,t1,t2,t4,c1,c2,c3,xi,nx,ny,e1,k2,-Int.natCast_add]
theorem c_spec_l7Inside {us:List T} (h:tsOk us=true) {g:List Nat} (h5:g.length≤5) (hg:∀ k∈g,k < us.length) :
  call lf n_spec_l7Inside [.sl 0 (us.map e2),.sl 0 ((ni g).map .i)]=some (.fr 1 ((ni (inT us g)).map .i),[]):=by
 rw [call_k lf n_spec_l7Inside _ (F:=F_spec_l7Inside) rfl rfl]
 have h':=tsOk_iff.1 h
 have L:=in_outer h'.2 h5 hg g.length 0 5640 (.inl rfl) (by omega)
 have z:inTi us g 0=[]:=rfl
 rw [z] at L
 unfold stIo at L
 have z':ni []=[]:=rfl
 rw [z'] at L
 simp only [Int.natCast_zero,List.length_nil,List.map_nil] at L
 have ll:(inT us g).length=g.length:=(inT_perm us g).length_eq
 have nl:=ni_len (inT us g)
 have tk:List.take g.length ((ni (inT us g)).map DV.i)=(ni (inT us g)).map .i:=List.take_of_length_le (by simp [nl,ll])
 rw [ll] at L nl
 simp [F_spec_l7Inside,L,nl,tk]
theorem gok_of {m:Nat} (hm:1≤m∧m≤5) {L:List (List Int)} (h:gokB m L=true):∃ N:List (List Nat),L=N.map ni∧Gok m N:=by
 unfold gokB at h
 rw [Bool.and_eq_true] at h
 obtain ⟨h1,h2⟩:=h
 obtain ⟨o1,o2,o3⟩:=orOk_iff.1 h2
 obtain ⟨o4,o5⟩:=orS_nodup.1 o3
 have e:L=(L.map (List.map Int.toNat)).map ni:=by
  rw [List.map_map]
  conv=>lhs; rw [← List.map_id L]
  apply List.map_congr_left
  intro r hr
  show r=ni (r.map Int.toNat)
  unfold ni
  rw [List.map_map]
  conv=>lhs; rw [← List.map_id r]
  apply List.map_congr_left
  intro a ha
  have:=(o4 a (List.mem_flatten.2 ⟨r,hr,ha⟩)).1
  show a=((a.toNat:Nat):Int)
  omega
 have ef:(L.map (List.map Int.toNat)).flatten=L.flatten.map Int.toNat:=by rw [List.map_flatten]
 have lt:∀ g∈L.map (List.map Int.toNat),∀ k∈g,k < m:=by
  intro g hg k hk
  obtain ⟨r,hr,rfl⟩:=List.mem_map.1 hg
  obtain ⟨a,ha,rfl⟩:=List.mem_map.1 hk
  have:=(o4 a (List.mem_flatten.2 ⟨r,hr,ha⟩)).1
  omega
 have nd:(L.map (List.map Int.toNat)).flatten.Nodup:=by
  rw [ef,List.nodup_iff_pairwise_ne,List.pairwise_map]
  refine List.Pairwise.imp_of_mem (fun {a b} ha hb hab h=>hab ?_) (List.nodup_iff_pairwise_ne.1 o5)
  have:=(o4 a ha).1
  have:=(o4 b hb).1
  omega
 refine ⟨_,e,lt,nd,fun k hk=>?_,?_⟩
 ·rw [ef,List.mem_map]
  have p:=(or_perm h2).mem_iff.2 (mem_rng.2 (show 0≤(k:Int)∧(k:Int) < ((m:Int).toNat:Nat) by omega))
  exact ⟨(k:Int),p,by simp⟩
 ·intro g hg
  obtain ⟨r,hr,rfl⟩:=List.mem_map.1 hg
  have:=List.all_eq_true.1 h1 r hr
  simpa using this
theorem gok_to {m:Nat} (hm:1≤m∧m≤5) {N:List (List Nat)} (G:Gok m N):gokB m (N.map ni)=true:=by
 unfold gokB
 rw [Bool.and_eq_true]
 have ef:(N.map ni).flatten=ni N.flatten:=by unfold ni; rw [List.map_flatten]
 refine ⟨?_,?_⟩
 ·rw [List.all_map,List.all_eq_true]
  intro g hg
  have:=G.ne g hg
  cases g with
  | nil=>exact absurd rfl this
  | cons a g=>rfl
 ·rw [ef,orOk_iff,orS_nodup]
  refine ⟨by omega,by rw [ni_len,gok_len G],fun o ho=>?_,?_⟩
  ·obtain ⟨k,hk,rfl⟩:=List.mem_map.1 ho
   obtain ⟨g,h1,h2⟩:=List.mem_flatten.1 hk
   have:=G.lt g h1 k h2
   exact ⟨by omega,by simp⟩
  ·unfold ni
   rw [List.nodup_iff_pairwise_ne,List.pairwise_map]
   exact List.Pairwise.imp (fun {a b} (hab:a≠b) h=>hab (Int.ofNat_inj.1 h)) (List.nodup_iff_pairwise_ne.1 G.nd)
end
section
attribute [-simp] DV.cells
attribute [local simp] sliceD cells_st cells_sl cells_i cells_y cells_b cells_s cells_w
theorem c_impl_ratioOf (c q row:Int) (hq:1≤q∧q≤5):call lf n_impl_ratioOf [.st [.i c,.i q],.i row]=some (.st [.i c,.i (if row=0 then 6 - q else q)],[]):=by
 rw [call_k lf n_impl_ratioOf _ (F:=F_impl_ratioOf) rfl rfl]
 have C:=c_impl_endChance c q row hq
 generalize (if row=0 then 6 - q else q)=z at *
 simp [F_impl_ratioOf,C]
theorem c_impl_isLess (a b x y:Int) (h1:0≤a * y∧a * y≤1000) (h2:0≤x * b∧x * b≤1000):call lf n_impl_ratio_isLess [.st [.i a,.i b],.st [.i x,.i y]]=some (.b (decide (a * y < x * b)),[]):=by
 rw [call_k lf n_impl_ratio_isLess _ (F:=F_impl_ratio_isLess) rfl rfl]
 have w1:wr (a * y)=a * y:=wr_id (by omega) (by omega)
 have w2:wr (x * b)=x * b:=wr_id (by omega) (by omega)
 simp [F_impl_ratio_isLess,w1,w2]
theorem c_impl_less {us:List T} (h:tsOk us=true) (row:Int) {a b:Int} (ha:0≤a∧a < us.length) (hb:0≤b∧b < us.length) :
  call lf n_impl_RatioOrder_1 [.i a,.i b,.adr (.sl 0 (us.map e2)),.adr (.i row)]=some (.b (!(rLe us row b a)),[]):=by
 have h':=tsOk_iff.1 h
 obtain ⟨c1,q1,x1,x2,x3⟩:=cA_at (us:=us) ha.1 ha.2
 obtain ⟨c2,q2,y1,y2,y3⟩:=cA_at (us:=us) hb.1 hb.2
 have tq1:=tOk_iff.1 (List.all_eq_true.1 h'.2 us[a.toNat] (List.getElem_mem (by omega)))
 have tq2:=tOk_iff.1 (List.all_eq_true.1 h'.2 us[b.toNat] (List.getElem_mem (by omega)))
 rw [← show us.getD a.toNat (0,0)=us[a.toNat] by simp [List.getD,show a.toNat < us.length by omega],x3] at tq1
 rw [← show us.getD b.toNat (0,0)=us[b.toNat] by simp [List.getD,show b.toNat < us.length by omega],y3] at tq2
 have R1:=c_impl_ratioOf c1 q1 row tq1.2
 have R2:=c_impl_ratioOf c2 q2 row tq2.2
 have e1:(if row=0 then 6 - q1 else q1)=eA us row a.toNat:=by unfold eA; rw [x3]
 have e2':(if row=0 then 6 - q2 else q2)=eA us row b.toNat:=by unfold eA; rw [y3]
 rw [e1] at R1
 rw [e2'] at R2
 have b1:=eA_bd h'.2 (row:=row) (a:=a.toNat) (by omega)
 have b2:=eA_bd h'.2 (row:=row) (a:=b.toNat) (by omega)
 have t1:=tq1.1
 have t2:=tq2.1
 simp only at t1 t2
 have I:=c_impl_isLess c1 (eA us row a.toNat) c2 (eA us row b.toNat) ⟨Int.mul_nonneg (by omega) (by omega),Int.le_trans (Int.mul_le_mul (show c1≤9 by omega) (show eA us row b.toNat≤5 by omega) (by omega) (by omega)) (by omega)⟩ ⟨Int.mul_nonneg (by omega) (by omega),Int.le_trans (Int.mul_le_mul (show c2≤9 by omega) (show eA us row a.toNat≤5 by omega) (by omega) (by omega)) (by omega)⟩
 have e:(!(rLe us row b a))=decide (c1 * eA us row b.toNat < c2 * eA us row a.toNat):=by
  unfold rLe
  rw [← x2,← y2]
  by_cases hc:c2 * eA us row a.toNat≤c1 * eA us row b.toNat
  ·rw [decide_eq_true hc,decide_eq_false (by omega)]; rfl
  ·rw [decide_eq_false hc,decide_eq_true (by omega)]; rfl
 rw [e]
 have ha1:=ha.1
 have ha2:=ha.2
 have hb1:=hb.1
 have hb2:=hb.2
 rw [call_k lf n_impl_RatioOrder_1 _ (F:=F_impl_RatioOrder_1) rfl rfl]
 simp [F_impl_RatioOrder_1,x1,y1,R1,R2,I]
theorem c_Insert (es:List DV) (x:DV) {n:Nat} (hn:n≤es.length) (hb:es.length≤1000):call lf n_slices_Insert_int_int [.gv 1 es,.i n,.gv 1 [x]]=some (.fr 1 (es.take n++x :: es.drop n),[]):=by
 rw [call_prim lf n_slices_Insert_int_int _ (F:=F_slices_Insert_int_int) rfl rfl,ins_k,if_pos ⟨by omega,by omega,by simp [bound]; omega,by simp⟩]
 simp
def stIs (us:List T) (row k:Int) (L:List Int) (a:Nat):LS:=⟨[(0,.own 14 L.length 0 L.length),(1,.i k),(2,.fn n_impl_RatioOrder_1 [.adr (.sl 0 (us.map e2)),.adr (.i row)]),(7,.i a)],[(14,L.map .i)]⟩
set_option maxHeartbeats 4000000 in
theorem ins_loop {us:List T} (h:tsOk us=true) (row:Int) {k:Int} (hk:0≤k∧k < us.length) {L:List Int} (hL:L.length≤5) {p:Nat} (H:∀ j (hj:j < L.length),(0≤L[j]∧L[j] < us.length)∧rLe us row L[j] k=decide (j < p)):∀ d:Nat,p+d≤L.length →
  ex lf F_impl_inserted_int_W0 (stIs us row k L (p+d))=some (.exit 0,stIs us row k L p):=by
 have tk:List.take L.length (L.map DV.i)=L.map .i:=List.take_of_length_le (by simp)
 have one:∀ (j:Nat) (hj:j < L.length),atI (L.map DV.i) ((j:Nat):Int)=some (.i L[j])∧atN (L.map DV.i) j=some (.i L[j])∧wr (((j+1:Nat):Int) - 1)=(j:Nat)∧(0:Int) < ((j+1:Nat):Int)∧call lf n_impl_RatioOrder_1 [.i k,.i L[j],.adr (.sl 0 (us.map e2)),.adr (.i row)]=some (.b (!(decide (j < p))),[]):=by
  intro j hj
  obtain ⟨h1,h2⟩:=H j hj
  refine ⟨?_,?_,?_,by omega,?_⟩
  ·simp only [atI,if_pos (Int.natCast_nonneg _)]
   show (L.map DV.i)[((j:Nat):Int).toNat]?=_
   rw [Int.toNat_natCast]; simp [hj]
  ·show (L.map DV.i)[j]?=_
   simp [hj]
  ·rw [wr_id (by omega) (by omega)]; omega
  ·rw [c_impl_less h row hk h1,h2]
 intro d
 induction d with
 | zero =>
  intro hd
  cases p with
  | zero =>
   rw [w_impl_inserted_int_0]
   simp [stIs,F_impl_inserted_int_L0]
  | succ p =>
   obtain ⟨q1,q2,q3,q4,q5⟩:=one p (by omega)
   rw [decide_eq_true (show p < p+1 by omega)] at q5
   have hp:p < L.length:=by omega
   rw [w_impl_inserted_int_0]
   simp [stIs,F_impl_inserted_int_L0,tk,q1,q2,q3,q4,q5,hp,-Int.natCast_add]
 | succ d ih =>
  intro hd
  obtain ⟨q1,q2,q3,q4,q5⟩:=one (p+d) (by omega)
  rw [decide_eq_false (show ¬ p+d < p by omega)] at q5
  have hp:p+d < L.length:=by omega
  have I:=ih (by omega)
  rw [w_impl_inserted_int_0,show p+(d+1)=p+d+1 by omega]
  unfold stIs at *
  simp [F_impl_inserted_int_L0,tk,q1,q2,q3,q4,q5,hp,I,-Int.natCast_add]
theorem c_impl_inserted {us:List T} (h:tsOk us=true) (row:Int) {k:Int} (hk:0≤k∧k < us.length) {L:List Int} (hL:L.length≤5) {p:Nat} (hp:p≤L.length) (H:∀ j (hj:j < L.length),(0≤L[j]∧L[j] < us.length)∧rLe us row L[j] k=decide (j < p)) :
  call lf n_impl_inserted_int [.gv 1 (L.map .i),.i k,.fn n_impl_RatioOrder_1 [.adr (.sl 0 (us.map e2)),.adr (.i row)]]=some (.fr 1 ((L.take p++k :: L.drop p).map .i),[]):=by
 have W:=ins_loop h row hk hL H (L.length - p) (by omega)
 rw [show p+(L.length - p)=L.length by omega] at W
 unfold stIs at W
 have I:=c_Insert (L.map .i) (.i k) (n:=p) (by simpa using hp) (by simp; omega)
 have e:(L.map DV.i).take p++DV.i k :: (L.map DV.i).drop p=(L.take p++k :: L.drop p).map .i:=by simp
 rw [e] at I
 have le:(L.take p++k :: L.drop p).length=L.length+1:=by simp; omega
 rw [call_k lf n_impl_inserted_int _ (F:=F_impl_inserted_int) rfl rfl]
 generalize L.take p++k :: L.drop p=M at *
 simp [F_impl_inserted_int,W,I]
theorem rO_split {us:List T} (h:tsOk us=true) (row:Int) {i:Nat} (hi:i < us.length):∀ j (hj:j < (rO us row i).length),(0≤(rO us row i)[j]∧(rO us row i)[j] < us.length)∧rLe us row (rO us row i)[j] i=decide (j < insPos us row i (rO us row i)):=by
 have h':=tsOk_iff.1 h
 have S:=rO_sorted h'.2 row i (by omega)
 have M:∀ o∈rO us row i,0≤o∧o < us.length:=fun o ho=>by have:=rO_mem ho; omega
 generalize rO us row i=L at *
 intro j hj
 refine ⟨M _ (List.getElem_mem hj),?_⟩
 induction L generalizing j with
 | nil=>simp at hj
 | cons o r ih =>
  obtain ⟨p1,p2⟩:=List.pairwise_cons.1 S
  have ih:=ih p2 (fun o ho=>M o (List.mem_cons_of_mem _ ho))
  by_cases hc:rLe us row o i=true
  ·have e:insPos us row i (o :: r)=insPos us row i r+1:=by simp only [insPos]; rw [if_pos hc]
   rw [e]
   cases j with
   | zero=>simp [hc]
   | succ j =>
    have:=ih j (by simpa using hj)
    rw [List.getElem_cons_succ,this]
    simp
  ·have e:insPos us row i (o :: r)=0:=by simp only [insPos]; rw [if_neg hc]
   rw [e]
   have hf:rLe us row o i=false:=by simpa using hc
   cases j with
   | zero=>simp [hf]
   | succ j =>
    rw [List.getElem_cons_succ]
    have hj':j < r.length:=by simpa using hj
    have hm:=M _ (List.mem_cons_self ..)
    have hr:=M _ (List.mem_cons_of_mem _ (List.getElem_mem hj'))
    cases hq:rLe us row r[j] i with
    | false=>simp
    | true =>
     have:=rLe_trans h'.2 (row:=row) (a:=o) (b:=r[j]) (c:=(i:Int)) (by omega) (by omega) (by omega) (p1 _ (List.getElem_mem hj')) hq
     rw [hf] at this; cases this
def stOi (us:List T) (row:Int) (K:Nat) (L:List Int) (i:Nat):LS:=⟨[(5,.fn n_impl_RatioOrder_1 [.adr (.sl 0 (us.map e2)),.adr (.i row)]),(6,.own K L.length 0 L.length),(18,.i us.length),(19,.i i)],[(K,L.map .i)]⟩
set_option maxHeartbeats 4000000 in
theorem ratio_outerI {us:List T} (h:tsOk us=true) (row:Int) (j:Nat):∀ (i K:Nat),(K=3080∨K=12808)→i+j=us.length →
  ex lf F_impl_RatioOrder_W0 (stOi us row K (rO us row i) i)=some (.exit 0,stOi us row 3080 (rO us row us.length) us.length):=by
 have h':=tsOk_iff.1 h
 induction j with
 | zero =>
  intro i K hK hi
  have e:i=us.length:=by omega
  subst e
  rw [w_impl_RatioOrder_0]
  rcases hK with rfl | rfl <;> simp [stOi,F_impl_RatioOrder_L0]
 | succ j ih =>
  intro i K hK hi
  have k2:=ih (i+1) 12808 (.inr rfl) (by omega)
  have hlt:i < us.length:=by omega
  have ll:=rO_len us row i
  have pl:=insPos_le us row i (rO us row i)
  have I:=c_impl_inserted h row (k:=(i:Nat)) ⟨by omega,by omega⟩ (L:=rO us row i) (by omega) pl (rO_split h row hlt)
  rw [← insR_pos us row i (rO us row i),show insR us row i (rO us row i)=rO us row (i+1) from rfl] at I
  have l2:=rO_len us row (i+1)
  have w1:wr ((i:Int)+1)=((i+1:Nat):Int):=by rw [wr_id (by omega) (by omega)]; omega
  have lt':(i:Int) < us.length:=by omega
  unfold stOi at *
  rw [l2] at k2
  rw [ll]
  have m1:((rO us row i).map DV.i).length=i:=by simp [ll]
  have m2:((rO us row (i+1)).map DV.i).length=i+1:=by simp [l2]
  have lm:lendL ((rO us row i).map DV.i)=(rO us row i).map .i:=by simp
  have am:∀ b,adoptL b ((rO us row (i+1)).map DV.i)=(rO us row (i+1)).map .i:=fun b=>by simp
  rw [w_impl_RatioOrder_0]
  generalize (rO us row i).map DV.i=M at *
  generalize (rO us row (i+1)).map DV.i=M2 at *
  rcases hK with rfl | rfl <;> simp [F_impl_RatioOrder_L0,hlt,lt',I,w1,k2,m1,m2,lm,am,-Int.natCast_add]
theorem c_impl_RatioOrder (us:List T) (row:Int) (ha:(us.length:Int) < 1099511627776):call lf n_impl_RatioOrder [.sl 0 (us.map e2),.i row]=some (.fr 1 ((roL us row).map .i),[]):=by
 rw [call_k lf n_impl_RatioOrder _ (F:=F_impl_RatioOrder) rfl rfl]
 have C1:=c_impl_TestsOk us ha
 have C2:=c_impl_rowOk row
 unfold roL
 cases h1:tsOk us with
 | false=>rw [h1] at C1; simp [F_impl_RatioOrder,C1]
 | true =>
  rw [h1] at C1
  cases h2:rwOk row with
  | false=>rw [h2] at C2; simp [F_impl_RatioOrder,C1,C2]
  | true =>
   rw [h2] at C2
   have L:=ratio_outerI h1 row us.length 0 3080 (.inl rfl) (by omega)
   unfold stOi at L
   have z:(rO us row 0).map DV.i=[]:=rfl
   have z':(rO us row 0).length=0:=rfl
   rw [z,z'] at L
   simp only [Int.natCast_zero] at L
   have ll:=rO_len us row us.length
   rw [ll] at L
   simp [F_impl_RatioOrder,C1,C2,L,ll]
end
end Zz
