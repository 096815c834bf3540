/- What the functions answer, as equations: EA. No conditions. -/
import Derived.Test.YtffghabijlfpeaaIrzp
import Derived.Test.YtffghabijlfpeaaE0
import Derived.Test.YtffghabijlfpeaaLgEzp
import Derived.Test.YtffghabijlfpeaaLgFzp
set_option linter.unusedSectionVars false
set_option linter.unusedVariables false
set_option linter.unusedSimpArgs false
namespace Zz
open Go.Lg Md
set_option linter.unusedSimpArgs false
set_option linter.unusedVariables false
attribute [local simp] tm_mv tm_newnil tm_pick tm_bin tm_eqb tm_eqs tm_un tm_len tm_lens tm_chk tm_fld tm_fldv tm_idxa tm_idx tm_load tm_store tm_slice tm_slices tm_make tm_alloc tm_box tm_build tm_app tm_conv tm_ext tm_call tm_calld tm_mkfn tm_mm tm_idxp tm_eqn tm_callg tm_callm tm_bslice0 tm_bslice1 tm_bslice2 tm_bslice cw_nil cw_cons cd_none cd_some ec_nil ec_cons es_nil es_one es_more nn_nil nn_cons ns_nil ns_cons si_nil si_cons sk_t stod_oad stod_own stod_adr stod_dead ml_nil ml_cons nt_nil nt_cons nc_nil' nc_cons sa_mkfn cv_adr cv_i cv_y cv_b cv_w sa_calld nm_def nh_nil nh_cons nxM_some nxM_none sc_st sd_i sd_y sd_b sd_s sd_w sd_q sc_i sc_y sc_b sc_s sc_w sc_q sa_bslice sa_app nc_own nc_nil sa_call sa_alloc sa_build sa_callm rm_nil rm_one rm_gen bq_mul bq_eql ia_mv ia_newnil ia_pick ia_bin ia_eqb ia_eqs ia_un ia_len ia_lens ia_chk ia_fld ia_fldv ia_idxa ia_idx ia_load ia_store ia_slice ia_slices ia_make ia_alloc ia_box ia_build ia_bslice ia_app ia_b2i ia_i2b ia_i2i ia_same ia_b2s ia_s2b ia_ext ia_mm ia_idxp ia_calld ia_mkfn ia_i2r ia_r2s ia_call pt_nil pt_cons mi_nil mi_cons md_bslice md_mv md_newnil md_pick md_bin md_eqb md_un md_len md_lens md_fld md_fldv md_idxa md_idx md_load md_store md_slice md_slices md_make md_alloc md_box md_build md_app md_conv md_ext md_call md_calld md_callg md_mkfn md_mm md_idxp md_eqn md_eqs md_chk tg_bslice tg_mv tg_newnil tg_pick tg_bin tg_eqb tg_un tg_len tg_lens tg_fld tg_fldv tg_idxa tg_idx tg_load tg_store tg_slice tg_slices tg_make tg_alloc tg_box tg_build tg_app tg_conv tg_ext tg_call tg_calld tg_callg tg_mkfn tg_mm tg_idxp tg_eqn tg_eqs tg_chk rp_eq ro_eq ifP_t ifP_f np_def ng1_nil ng2_nil ng_gate ng_gen tgA_t tgA_0 tgA_1 tgA_2 aC_nil aC_c aC_t rS_def nb_def tv_b2i tv_i2b tv_i2i tv_s2b tv_b2s tv_same tv_i2r tv_r2s tv_i2q tv_q2i tv_q2q nxZ_some nxZ_none rz_nil rz_gen nxP_some nxP_none rq_nil rq_gen rq_gate nxR_some nxR_none ru_nil ru_gen ru_gate pl_none pl_some gt_nil gt_t gt_c di_some di_none an_nil an_cons nxG_some nxG_none rg_nil rg_gen rg_gate oldO_some oa_nil oa_i oa_y oa_b oa_s oa_st oa_sl oa_own oa_oad oa_nl al_nil al_cons al_i al_y al_b al_s al_st al_sl nxF_some nxF_none rf_nil rf_gen rf_gate hk_newnil hk_make hk_alloc hk_box hk_build hk_bslice hk_call hk_store hk_app hk_appn em_cel mm_cel ok_cel ov_cel so_cel il_cel oi_cel oj_cel ol_cel nm_cel hk_appc ef_bslice5 ef_app_cel ks_shut shu_own shc_none shc_cel cl_nil cl_cons ai_nil ai_cons il_i il_y il_b il_s il_st il_sl il_own il_adr il_oad il_ref il_fr il_tup il_nil il_np il_und il_dead ol_adr ol_b ol_dead ol_e ol_fn ol_fr ol_i ol_nil ol_np ol_oad ol_own ol_q ol_r ol_ref ol_s ol_sl ol_st ol_tup ol_und ol_w ol_y oj_e oj_i oj_y oj_b oj_s oj_st oj_sl oj_own oj_adr oj_oad oj_ref oj_fr oj_tup oj_nil oj_np oj_und oj_dead oj_w oj_q oj_r oj_fn oi_e oi_i oi_y oi_b oi_s oi_st oi_sl oi_own oi_adr oi_oad oi_ref oi_fr oi_tup oi_nil oi_np oi_und oi_dead as_nil as_cons ao_nil ao_cons av_i av_y av_b av_s av_st av_sl av_own av_adr av_oad av_ref av_fr av_tup av_nil av_np av_und av_dead pro_cons ghK_some ks_promote ks_freeze frz_own ks_rename ren_own ks_cell cel_own dropO adoptP newP wholeP cutP allOldL ex_skip ex_ret ex_exit ks_region ks_seq ks_cut ks_cond ks_block seqK_n seqK_e seqK_r regK_some condK_t condK_f blkK_n blkK_r blkK_e endK_n endK_r rr_false rr_true rd_free mo_nil mo_cons drK_some drK_none nxW_some nxW_none rw_nil rw_gen rw_gate ak_newnil ak_make ak_alloc ak_box ak_build ak_bslice ak_call ak_store ak_app iw_mm iw_eqn iw_idxp ef_callg cgK_some gv_e gv_own gv_i gv_sl gv_st gv_b gv_nil gvK_some gvO_some iw_callg ia_callg ak_callg hk_callg is_mv is_newnil is_pick is_bin is_eqb is_eqs is_un is_len is_lens is_chk is_fld is_fldv is_idxa is_idx is_load is_slice is_slices is_make is_alloc is_box is_build is_bslice is_app is_conv is_ext is_call is_calld is_callg is_mkfn is_mm is_idxp is_eqn is_store rt_nil rt_gen rt_gate nxT_some nxT_none ef_eqn_nil ef_eqn_sl ef_eqn_own ia_eqn ef_mmx ef_mmn ef_idxp nxD_some nxD_none ov_i ov_y ov_b ov_s ov_st ov_sl ov_own ov_oad ov_adr ov_nil ov_np ov_und ov_dead ov_tup oldN_some oldN_nil oldN_none so_none so_tup DV.noM so_i so_y so_b so_s so_st so_sl so_adr so_nil so_np so_und so_dead anyM_nil anyM_t anyM_c so_own so_oad rd_nil rd_gen rd_mv rd_gate iw_mv iw_newnil iw_pick iw_bin iw_eqb iw_eqs iw_un iw_len iw_lens iw_chk iw_fld iw_fldv iw_idxa iw_idx iw_load iw_store iw_slice iw_slices iw_make iw_alloc iw_box iw_build iw_bslice iw_app iw_b2i iw_i2b iw_i2i iw_same iw_b2s iw_s2b iw_ext iw_call nm_i nm_y nm_b nm_s nm_st nm_sl nm_own nm_oad nm_adr nm_nil nm_np nm_und nm_dead nm_tup rl_nil rl_gate rl_mv rl_gen opv_t opv_c nx_some nx_none gate_tt gate_tf gate_ft gate_ff gate_u fr_ap em_nil em_i em_y em_b em_s em_st em_sl em_own em_adr em_oad em_ref em_nl em_np em_und em_dead em_tup0 em_tup_i em_tup_b em_tup_s em_tup_sl em_tup_st em_tup_np em_tup_own em_tup_oad mm_i mm_y mm_b mm_s mm_st mm_sl mm_own mm_oad mm_adr mm_nil mm_np mm_und mm_dead ef_mv ef_newnil ef_pickt ef_pickf ef_bin ef_eqb ef_eqs ef_un ef_lens ef_len_sl ef_len_own ef_len_nil ef_chk_adr ef_chk_oad ef_fld_adr ef_fld_oad ef_fldv idxR_some ef_idxa_sl ef_idxa_own ef_idx ef_load_adr_st ef_load_adr_i ef_load_adr_y ef_load_adr_b ef_load_adr_s ef_load_adr_sl atN_nil atN_zero atN_succ ef_load_oad ef_store ef_slice ef_slices ef_make ef_alloc ef_box ef_build ef_bslice ef_app_own ef_app_nil ef_b2i ef_i2b ef_i2i ef_same ef_ext ret1 ret2_some calL_some ef_call retC_i retC_y retC_b retC_s retC_st retC_sl retC_np retC_fr retC_ref retC_tup rk_nil rk_i rk_y rk_b rk_s rk_st rk_sl rk_own rk_oad rk_nl ok_nil ok_i ok_y ok_b ok_s ok_st ok_sl ok_own ok_oad ok_nl lo_nil lo_i lo_y lo_b lo_s lo_st lo_sl lo_own lo_oad lo_nl pr_nil pr_i pr_y pr_b pr_s pr_st pr_sl pr_own pr_nl pr_oad nr_i nr_y nr_b nr_s nr_st nr_sl nr_fr nr_np nr_tup ng_i ng_b ng_s ng_fr ng_nil resV effP_eff binD bi_add bi_sub bi_mul bi_quo bi_rem bi_eql bi_neq bi_lss bi_leq bi_gtr bi_geq bi_shl bi_shr bi_and bi_or bi_xor bi_andNot binY binS unD look put putD LS.get LS.drop killE sweep lookO putO dropO enter leave giveBackL giveBack outs lendArgs lendArg newOuts takeIn takeInL lendL DV.lend adoptL DV.adopt elems apartKs part DV.cells unpart settle settleL over mkId szId fillP fillE tk_e2 tk_i tk_y lt_e2 lt_i lt_y lend_rep al_e2 al_is al_ys al_rep al_app lend_app adopt_app new_app lend_e2 lend_i lend_y adopt_e2 adopt_i adopt_y new_e2 new_i allNewL DV.allNew bounds sliceD sliceS em_w em_q em_r em_fn em_tup_w em_tup_q em_tup_r mm_w mm_q mm_r mm_fn ef_load_adr_w ef_load_adr_q ef_load_adr_r retC_w retC_q retC_r rk_w rk_q rk_r rk_fn ok_w ok_q ok_r ok_fn lo_w lo_q lo_r lo_fn pr_w pr_q pr_r pr_fn nr_w nr_q nr_r ng_w ng_q ng_r oa_w oa_q oa_r oa_fn al_w al_q al_r al_fn ov_w ov_q ov_r ov_fn so_w so_q so_r so_fn il_w il_q il_r il_fn oi_w oi_q oi_r oi_fn av_w av_q av_r av_fn nm_w nm_q nm_r nm_fn ef_i2r ef_r2s ef_b2s bs_some ys_nil ys_cons ys_map ef_mkfn ef_mkbd ef_idxp_adr ef_idxp_q ef_calld_nil ef_calld_adr ef_calld_bd DV.capB capsOk DV.cell List.all_cons List.all_nil rk_own_t lo_own_t lk_f lk_t pr_own_t mutB ak_calld hk_calld iw_calld iw_mkfn iw_i2r iw_r2s bw_and bw_or bw_xor bw_andNot bw_eql bw_neq sw_shl sw_shr sq_shl gEnv_nil rk_adr ok_adr lo_adr pr_adr oa_adr capL capArg DV.cap ak_mkfn hk_mkfn hk_mkbd ef_callm gf_ap ga_nil ga_cons tgv_own gk_e gk_giv gk_i gk_y gk_b gk_s gk_w gk_q gk_r gk_fn gk_st gk_sl gk_own gk_oad gk_adr gk_nl gk_np rk_giv ok_giv lo_giv pr_giv oa_giv iw_callm hk_callm ak_callm is_callm ia_callm tg_callm md_callm ef_i2q ef_q2i ef_q2q iw_i2q iw_q2i iw_q2q ia_i2q ia_q2i ia_q2q bq_and bq_add bq_shr sq_shr tgv_nil gk_ref rk_ref ok_ref lo_ref pr_ref oa_ref retC_fn nr_fn ef_load_adr_fn ks_close cls_oad
attribute [local congr] nxM_congr ifP_congr nxP_congr nxZ_congr nxR_congr nxT_congr nxG_congr nxF_congr ghK_congr gate_congr nx_congr nxD_congr runL_congr runD_congr eff_congr calL_congr ret2_congr seqK_congr regK_congr condK_congr endK_congr drK_congr nxW_congr
attribute [local simp ↓] nxM_some rm_nil rm_one rm_gen nxT_some rt_nil rt_gen rt_gate nxZ_some rz_nil rz_gen nxP_some rq_nil rq_gen rq_gate nxR_some ru_nil ru_gen ru_gate nxG_some rg_nil rg_gen rg_gate nxF_some rf_nil rf_gen rf_gate ks_promote ks_freeze frz_own ks_rename ks_cell ghK_some gate_tt gate_tf gate_ft gate_ff gate_u nx_some nxD_some rl_nil rl_mv rl_gen rl_gate rd_nil rd_mv rd_gen rd_gate rd_free rr_false rr_true drK_some drK_none nxW_some rw_nil rw_gen rw_gate ks_region ks_seq ks_cut ks_cond ks_block seqK_n seqK_e seqK_r regK_some condK_t condK_f blkK_n blkK_r endK_n endK_r calL_some ret2_some opv_t opv_c
section
theorem c_impl_isWithin (a b c : Int) : call lf n_impl_isWithin [.i a,.i b,.i c] = some (.b (decide (b ≤ a ∧ a ≤ c)),[]) := by
 rw [call_k lf n_impl_isWithin _ (F := F_impl_isWithin) rfl rfl]
 by_cases h : b ≤ a <;> simp [F_impl_isWithin,h]
theorem c_spec_l1In (a b c : Int) : call lf n_spec_l1In [.i a,.i b,.i c] = some (.b (decide (b ≤ a ∧ a ≤ c)),[]) := by
 rw [call_k lf n_spec_l1In _ (F := F_spec_l1In) rfl rfl]
 by_cases h : b ≤ a <;> simp [F_spec_l1In,h]
theorem c_impl_manyOk (a : Int) : call lf n_impl_manyOk [.i a] = some (.b (nOk a),[]) := by
 rw [call_k lf n_impl_manyOk _ (F := F_impl_manyOk) rfl rfl]
 simp [F_impl_manyOk,c_impl_isWithin,nOk]

theorem l_impl_TestsOk (n : Int) (hb : n < 1099511627776) (es : List DV) (rest : List T) : ∀ k : Int,0 ≤ k → k + (rest.map e2).length = n → es.drop k.toNat = rest.map e2 →
  ex lf F_impl_TestsOk_W0 ⟨[(9,.sl 0 es),(10,.i n),(11,.i k)],[]⟩ =
  if rest.all tOk then some (.exit 0,⟨[(9,.sl 0 es),(10,.i n),(11,.i n)],[]⟩) else some (.ret,⟨[(2,.b false)],[]⟩) := by
 induction rest with
 | nil =>
  intro k h0 hn hd
  rw [w_impl_TestsOk_0]
  have hk : k = n := by simpa using hn
  simp [F_impl_TestsOk_L0,hk]
 | cons t rest ih =>
  intro k h0 hn hd
  obtain ⟨q1,q2,q3,q4,q5,q6⟩ := stp h0 hn hb hd
  have ih := ih (k + 1) q4 q5 q6
  simp only [e2] at q2
  rw [w_impl_TestsOk_0]
  have xt := tOk_def t
  cases x1 : decide (1 ≤ t.1 ∧ t.1 ≤ 9) <;> cases x2 : decide (1 ≤ t.2 ∧ t.2 ≤ 5) <;> rw [x1,x2] at xt <;> simp [F_impl_TestsOk_L0,q1,q2,q3,c_impl_isWithin,ih,xt,x1,x2,-List.all_eq_true]
theorem c_impl_TestsOk (ts : List T) (hb : (ts.length : Int) < 1099511627776) : call lf n_impl_TestsOk [.sl 0 (ts.map e2)] = some (.b (tsOk ts),[]) := by
 rw [call_k lf n_impl_TestsOk _ (F := F_impl_TestsOk) rfl rfl]
 have L := l_impl_TestsOk ts.length hb (ts.map e2) ts 0 (by omega) (by simp) (by simp)
 cases h1 : nOk ts.length <;> cases h2 : ts.all tOk <;> simp [F_impl_TestsOk,c_impl_manyOk,L,h1,h2,tsOk]

theorem l_spec_TestsOk (n : Int) (hb : n < 1099511627776) (es : List DV) (hE : (es.length : Int) = n) (rest : List T) : ∀ k : Int,0 ≤ k → k + (rest.map e2).length = n → es.drop k.toNat = rest.map e2 →
  ex lf F_spec_TestsOk_W0 ⟨[(0,.sl 0 es),(3,.i k)],[]⟩ =
  if rest.all tOk then some (.exit 0,⟨[(0,.sl 0 es),(3,.i n)],[]⟩) else some (.ret,⟨[(2,.b false)],[]⟩) := by
 induction rest with
 | nil =>
  intro k h0 hn hd
  rw [w_spec_TestsOk_0]
  have hk : k = n := by simpa using hn
  simp [F_spec_TestsOk_L0,hk,hE]
 | cons t rest ih =>
  intro k h0 hn hd
  obtain ⟨q1,q2,q3,q4,q5,q6⟩ := stp h0 hn hb hd
  have ih := ih (k + 1) q4 q5 q6
  simp only [e2] at q2
  rw [w_spec_TestsOk_0]
  have xt := tOk_def t
  cases x1 : decide (1 ≤ t.1 ∧ t.1 ≤ 9) <;> cases x2 : decide (1 ≤ t.2 ∧ t.2 ≤ 5) <;> rw [x1,x2] at xt <;> simp [F_spec_TestsOk_L0,q1,q2,q3,hE,c_spec_l1In,ih,xt,x1,x2,-List.all_eq_true]
theorem c_spec_TestsOk (ts : List T) (hb : (ts.length : Int) < 1099511627776) : call lf n_spec_TestsOk [.sl 0 (ts.map e2)] = some (.b (tsOk ts),[]) := by
 rw [call_k lf n_spec_TestsOk _ (F := F_spec_TestsOk) rfl rfl]
 have L := l_spec_TestsOk ts.length hb (ts.map e2) (by simp) ts 0 (by omega) (by simp) (by simp)
 cases h2 : ts.all tOk <;> simp [F_spec_TestsOk,c_spec_l1In,L,h2,tsOk,nOk]

theorem c_impl_statesOf (a : Int) (h0 : 0 ≤ a) (h5 : a ≤ 40) : call lf n_impl_statesOf [.i a] = some (.i (2 ^ a.toNat),[]) := by
 rw [call_k lf n_impl_statesOf _ (F := F_impl_statesOf) rfl rfl]
 have h1 : ¬ a < 0 := by omega
 simp [F_impl_statesOf,h1,shl1 h0 h5]
theorem nOk_iff {a : Int} : nOk a = true ↔ 1 ≤ a ∧ a ≤ 5 := by simp [nOk]
theorem tsOk_iff {ts : List T} : tsOk ts = true ↔ (1 ≤ (ts.length : Int) ∧ (ts.length : Int) ≤ 5) ∧ ts.all tOk = true := by
 rw [tsOk,Bool.and_eq_true,nOk_iff]
end
section
theorem p2 {ts : List T} (h : tsOk ts = true) : 1 ≤ (2 : Nat) ^ ts.length ∧ (2 : Nat) ^ ts.length ≤ 32 ∧ ((2 ^ ts.length : Nat) : Int) = 2 ^ ts.length := by
 have h' := tsOk_iff.1 h
 have a : (2 : Nat) ^ ts.length ≤ 2 ^ 5 := Nat.pow_le_pow_right (by omega) (by omega)
 exact ⟨Nat.pow_pos (by omega),by omega,by simp⟩
theorem at_e2 {ts : List T} {i : Nat} (hi : i < ts.length) : ∃ t,ts[i]? = some t ∧ t ∈ ts ∧ atI (ts.map e2) i = some (.st [.i t.1,.i t.2]) ∧ ts.take (i + 1) = ts.take i ++ [t] := by
 refine ⟨ts[i],List.getElem?_eq_getElem hi,List.getElem_mem hi,?_,List.take_succ_eq_append_getElem hi⟩
 simp [atI,hi,e2]
def ot (ts : List T) (i : Nat) : List DV := ((ts.take i).map other).map e2
def cn (ts : List T) (i : Nat) : List DV := ot ts i ++ List.replicate (ts.length - i) (.st [.i 0,.i 0])
end
section
def ci (ts : List Int) (i : Nat) : List DV := (ts.take i).map .i ++ List.replicate (ts.length - i) (.i 0)
theorem at_i {ks : List Int} {i : Nat} (hi : i < ks.length) : ∃ k,ks[i]? = some k ∧ k ∈ ks ∧ atI (ks.map .i) i = some (.i k) ∧ ks.take (i + 1) = ks.take i ++ [k] := by
 refine ⟨ks[i],List.getElem?_eq_getElem hi,List.getElem_mem hi,?_,List.take_succ_eq_append_getElem hi⟩
 simp [atI,hi]
theorem c_eqIntS_self (aS : List Int) (ha : (aS.length : Int) ≤ 1048576) : call lf n_laws_eqIntS [.sl 0 (aS.map .i),.sl 0 (aS.map .i)] = some (.b true,[]) := by
 rw [call_k lf n_laws_eqIntS _ (F := F_laws_eqIntS) rfl rfl]
 have L : ex lf F_laws_eqIntS_W0 ⟨[(0,.sl 0 (aS.map .i)),(1,.sl 0 (aS.map .i)),(5,.i 0)],[]⟩ = some (.exit 0,⟨[(0,.sl 0 (aS.map .i)),(1,.sl 0 (aS.map .i)),(5,.i aS.length)],[]⟩) := by
  refine loop_count aS.length (fun i => ⟨[(0,.sl 0 (aS.map .i)),(1,.sl 0 (aS.map .i)),(5,.i i)],[]⟩) (fun i hi => ?_) ?_ (by simp)
  ·obtain ⟨t,q1,q2,q3,q4⟩ := at_i hi
   have w1 : wr ((i : Int) + 1) = (i : Int) + 1 := wr_id (by omega) (by omega)
   simp [F_laws_eqIntS_L0,hi,q3,w1]
  ·simp [F_laws_eqIntS_L0]
 simp [F_laws_eqIntS,L]
end
section
theorem c_toTest (t : T) : call lf n_laws_toTest [e2 t] = some (e2 t,[]) := by
 rw [call_k lf n_laws_toTest _ (F := F_laws_toTest) rfl rfl]
 simp [F_laws_toTest,e2]
theorem c_szTestS (ts : List T) (n : Int) (h0 : 0 ≤ n) (h1 : n ≤ 1048576) (hb : (ts.length : Int) ≤ 9223372036854775807) : call lf n_laws_szTestS [.sl 0 (ts.map e2),.i n] = some (.i (if n < ts.length then -1 else n - ts.length),[]) := by
 rw [call_k lf n_laws_szTestS _ (F := F_laws_szTestS) rfl rfl]
 have w : wr (n - ts.length) = n - ts.length := wr_id (by omega) (by omega)
 by_cases h : n < ts.length
 ·have h' : n - ts.length < 0 := by omega
  simp [F_laws_szTestS,w,h,h']
 ·have h' : ¬ n - ts.length < 0 := by omega
  simp [F_laws_szTestS,w,h,h']
def cz (ts : List T) (i : Nat) : List DV := (ts.take i).map e2 ++ List.replicate (ts.length - i) (.st [.i 0,.i 0])
theorem cz_len {ts : List T} {i : Nat} (hi : i ≤ ts.length) : (cz ts i).length = ts.length := by simp [cz]; omega
theorem cz_set {ts : List T} {i : Nat} {t : T} (hi : i < ts.length) (h : ts.take (i + 1) = ts.take i ++ [t]) : (cz ts i).set i (.st [.i t.1,.i t.2]) = cz ts (i + 1) := by
 have : ((ts.take i).map e2).length = i := by simp; omega
 unfold cz
 rw [List.set_append_right _ _ (by omega),this,Nat.sub_self,h,show ts.length - i = (ts.length - (i + 1)) + 1 by omega,List.replicate_succ,List.set_cons_zero,List.map_append,List.append_assoc]
 rfl
theorem cz_get {ts : List T} {i : Nat} (hi : i < ts.length) : atN (cz ts i) i = some (.st [.i 0,.i 0]) := by
 show (cz ts i)[i]? = _
 have : ((ts.take i).map e2).length = i := by simp; omega
 unfold cz
 rw [List.getElem?_append_right (by omega),this,Nat.sub_self,List.getElem?_replicate]
 simp; omega
theorem cz_zero (ts : List T) : cz ts 0 = List.replicate ts.length (.st [.i 0,.i 0]) := by simp [cz]
theorem cz_all (ts : List T) : cz ts ts.length = ts.map e2 := by simp [cz]
theorem c_toTestS (ts : List T) (hb : (ts.length : Int) ≤ 1048576) : call lf n_laws_toTestS [.sl 0 (ts.map e2)] = some (.fr 2 (ts.map e2),[]) := by
 rw [call_k lf n_laws_toTestS _ (F := F_laws_toTestS) rfl rfl]
 have L : ex lf F_laws_toTestS_W0 ⟨[(0,.sl 0 (ts.map e2)),(3,.own 3600 ts.length 0 ts.length),(4,.i 0)],[(3600,cz ts 0)]⟩ =
   some (.exit 0,⟨[(0,.sl 0 (ts.map e2)),(3,.own 3600 ts.length 0 ts.length),(4,.i ts.length)],[(3600,cz ts ts.length)]⟩) := by
  refine loop_count ts.length (fun i => ⟨[(0,.sl 0 (ts.map e2)),(3,.own 3600 ts.length 0 ts.length),(4,.i i)],[(3600,cz ts i)]⟩) (fun i hi => ?_) ?_ (by simp)
  ·obtain ⟨t,q1,q2,q3,q4⟩ := at_e2 hi
   have w1 : wr ((i : Int) + 1) = (i : Int) + 1 := wr_id (by omega) (by omega)
   have c1 := cz_len (ts := ts) (i := i) (by omega)
   have c2 := cz_get hi
   have c3 := cz_set hi q4
   have C := c_toTest t
   simp only [e2] at C
   simp [F_laws_toTestS_L0,hi,q3,w1,c1,c2,c3,C]
  ·simp [F_laws_toTestS_L0]
 have b1 : (ts.length : Int) ≤ bound := by unfold bound; omega
 rw [cz_zero,cz_all] at L
 simp [F_laws_toTestS,b1,L]
theorem c_eqTest (t u : T) : call lf n_laws_eqTest [e2 t,e2 u] = some (.b (t.1 == u.1 && t.2 == u.2),[]) := by
 rw [call_k lf n_laws_eqTest _ (F := F_laws_eqTest) rfl rfl]
 by_cases h1 : t.1 = u.1
 ·by_cases h2 : t.2 = u.2
  ·simp [F_laws_eqTest,e2,h1,h2]
  ·have h3 : (t.2 != u.2) = true := bne_iff_ne.2 h2
   have h4 : (t.2 == u.2) = false := beq_eq_false_iff_ne.2 h2
   simp [F_laws_eqTest,e2,h1,h3,h4]
 ·have h3 : (t.1 != u.1) = true := bne_iff_ne.2 h1
  have h4 : (t.1 == u.1) = false := beq_eq_false_iff_ne.2 h1
  simp [F_laws_eqTest,e2,h3,h4]
theorem c_eqTestS_self (aS : List T) (ha : (aS.length : Int) ≤ 1048576) : call lf n_laws_eqTestS [.sl 0 (aS.map e2),.sl 0 (aS.map e2)] = some (.b true,[]) := by
 rw [call_k lf n_laws_eqTestS _ (F := F_laws_eqTestS) rfl rfl]
 have L : ex lf F_laws_eqTestS_W0 ⟨[(0,.sl 0 (aS.map e2)),(1,.sl 0 (aS.map e2)),(5,.i 0)],[]⟩ = some (.exit 0,⟨[(0,.sl 0 (aS.map e2)),(1,.sl 0 (aS.map e2)),(5,.i aS.length)],[]⟩) := by
  refine loop_count aS.length (fun i => ⟨[(0,.sl 0 (aS.map e2)),(1,.sl 0 (aS.map e2)),(5,.i i)],[]⟩) (fun i hi => ?_) ?_ (by simp)
  ·obtain ⟨t,q1,q2,q3,q4⟩ := at_e2 hi
   have w1 : wr ((i : Int) + 1) = (i : Int) + 1 := wr_id (by omega) (by omega)
   have C := c_eqTest t t
   simp only [e2,beq_self_eq_true,Bool.and_self] at C
   simp [F_laws_eqTestS_L0,hi,q3,w1,C]
  ·simp [F_laws_eqTestS_L0]
 simp [F_laws_eqTestS,L]
end
section
theorem mid_at {A B : List DV} {i : Nat} (h : A.length = i) (x : DV) : atN (A ++ x :: B) i = some x := by
 show (A ++ x :: B)[i]? = _
 rw [List.getElem?_append_right (by omega),h]; simp
theorem mid_set {A B : List DV} {i : Nat} (h : A.length = i) (x y : DV) : (A ++ x :: B).set i y = A ++ y :: B := by
 rw [List.set_append_right _ _ (by omega),h]; simp
theorem split_at {es : List DV} {i : Nat} (hi : i < es.length) : es.drop i = es[i] :: es.drop (i + 1) := List.drop_eq_getElem_cons hi
/-- the marks from k on -/
def mk1 (k : Int) (n : Nat) : List DV := (List.range n).map fun (j : Nat) => DV.i (k + (j : Int))
theorem mk1_len (k : Int) (n : Nat) : (mk1 k n).length = n := by simp [mk1]
theorem mk1_succ (k : Int) (n : Nat) : mk1 k (n + 1) = mk1 k n ++ [.i (k + n)] := by simp [mk1,List.range_succ]
def mk2 (k : Int) (n : Nat) : List DV := (List.range n).map fun (j : Nat) => DV.st [.i (k + 2 * (j : Int)),.i (k + 2 * (j : Int) + 1)]
theorem mk2_len (k : Int) (n : Nat) : (mk2 k n).length = n := by simp [mk2]
theorem mk2_succ (k : Int) (n : Nat) : mk2 k (n + 1) = mk2 k n ++ [.st [.i (k + 2 * n),.i (k + 2 * n + 1)]] := by simp [mk2,List.range_succ]
theorem mk2_map (k : Int) (n : Nat) : ∃ u : List T,mk2 k n = u.map e2 ∧ u.length = n := ⟨(List.range n).map fun (j : Nat) => (k + 2 * (j : Int),k + 2 * (j : Int) + 1),by simp [mk2,e2],by simp⟩
set_option maxHeartbeats 4000000 in
theorem c_heldIntS (n : Nat) (k : Int) (k0 : 0 ≤ k) (k1 : k ≤ 1000000000) (hl : n ≤ 1048576) : call lf n_laws_heldIntS [.sl 0 (mk1 k n),.i k] = some (.i (k + n),[]) := by
 rw [call_k lf n_laws_heldIntS _ (F := F_laws_heldIntS) rfl rfl]
 have lm := mk1_len k n
 have A : ∀ i,i < n → atI (mk1 k n) (i : Int) = some (.i (k + i)) := fun i hi => by simp [atI,mk1,hi]
 generalize mk1 k n = es at *
 have L := loop_count (lf := lf) (L := F_laws_heldIntS_L0) n (fun i => ⟨[(0,.sl 0 es),(1,.i (k + i)),(5,.i i)],[]⟩) (x := .exit 0) (R := ⟨[(0,.sl 0 es),(1,.i (k + n)),(5,.i n)],[]⟩) (fun i hi => by
  have w1 : wr ((i : Int) + 1) = (i : Int) + 1 := wr_id (by omega) (by omega)
  have w2 : wr (k + i + 1) = k + (i + 1 : Nat) := by rw [wr_id (by omega) (by omega)]; omega
  have hi' : (i : Int) < n := by omega
  have q := A i hi
  simp [F_laws_heldIntS_L0,hi,hi',w1,w2,lm,q]) (by
  simp [F_laws_heldIntS_L0,lm]) (by simp)
 have L' : ex lf F_laws_heldIntS_W0 ⟨[(0,.sl 0 es),(1,.i k),(5,.i 0)],[]⟩ = some (.exit 0,⟨[(0,.sl 0 es),(1,.i (k + n)),(5,.i n)],[]⟩) := by
  have := L
  simp only [Int.natCast_zero,Int.add_zero] at this
  exact this
 simp [F_laws_heldIntS,L']
set_option maxHeartbeats 4000000 in
theorem c_markTestS (xs : List T) (k : Int) (k0 : 0 ≤ k) (k1 : k ≤ 1000000000) (hl : xs.length ≤ 1048576) : call lf n_laws_markTestS [.fr 2 (xs.map e2),.i k] = some (.i (k + 2 * xs.length),[.fr 2 (mk2 k xs.length)]) := by
 rw [call_k lf n_laws_markTestS _ (F := F_laws_markTestS) rfl rfl]
 have L := loop_count (lf := lf) (L := F_laws_markTestS_L0) xs.length (fun i => ⟨[(0,.own 23 xs.length 0 xs.length),(1,.i (k + 2 * i)),(5,.i i)],[(23,mk2 k i ++ (xs.map e2).drop i)]⟩) (x := .exit 0) (R := ⟨[(0,.own 23 xs.length 0 xs.length),(1,.i (k + 2 * xs.length)),(5,.i xs.length)],[(23,mk2 k xs.length ++ (xs.map e2).drop xs.length)]⟩) (fun i hi => by
  have w1 : wr ((i : Int) + 1) = (i : Int) + 1 := wr_id (by omega) (by omega)
  have w2 : wr (k + 2 * i + 1) = k + 2 * i + 1 := wr_id (by omega) (by omega)
  have w3 : wr (k + 2 * i + 1 + 1) = k + 2 * (i + 1 : Nat) := by rw [wr_id (by omega) (by omega)]; omega
  have hi' : (i : Int) < xs.length := by omega
  have e := split_at (es := xs.map e2) (i := i) (by simpa using hi)
  rw [List.getElem_map] at e
  rw [mk2_succ,e]
  have hA := mk2_len k i
  have lB : (List.drop (i + 1) (xs.map e2)).length = xs.length - (i + 1) := by simp
  generalize xs[i] = x at *
  generalize List.drop (i + 1) (xs.map e2) = B at *
  generalize mk2 k i = A at *
  have q1 := mid_at (B := B) hA
  have q2 := mid_set (B := B) hA
  have q3 : ∀ x : DV,(A ++ x :: B).length = xs.length := fun x => by simp [hA,lB]; omega
  rw [show A ++ [DV.st [DV.i (k + 2 * ↑i),DV.i (k + 2 * ↑i + 1)]] ++ B = A ++ DV.st [DV.i (k + 2 * ↑i),DV.i (k + 2 * ↑i + 1)] :: B by simp]
  have q4 : ∀ a b : DV,1 ≤ [a,b].length := fun a b => by simp
  have q5 : ∀ a b : DV,2 ≤ [a,b].length := fun a b => by simp
  simp [F_laws_markTestS_L0,e2,hi,hi',w1,w2,w3,q1,q2,q3,q4,q5,-List.length_append,-List.length_cons]) (by
  have lm := mk2_len k xs.length
  simp [F_laws_markTestS_L0,lm]) (by simp)
 have z : mk2 k 0 ++ (xs.map e2).drop 0 = xs.map e2 := by simp [mk2]
 rw [z] at L
 have zn : mk2 k xs.length ++ (xs.map e2).drop xs.length = mk2 k xs.length := by simp
 rw [zn] at L
 have L' : ex lf F_laws_markTestS_W0 ⟨[(0,.own 23 xs.length 0 xs.length),(1,.i k),(5,.i 0)],[(23,xs.map e2)]⟩ = some (.exit 0,⟨[(0,.own 23 xs.length 0 xs.length),(1,.i (k + 2 * xs.length)),(5,.i xs.length)],[(23,mk2 k xs.length)]⟩) := by
  have := L
  simp only [Int.natCast_zero,Int.mul_zero,Int.add_zero] at this
  exact this
 have lm := mk2_len k xs.length
 simp [F_laws_markTestS,L',lm]
end
section
/-- a mark read with p parts before it -/
def mkS (m p : Int) (t : T) : Option Int :=
 if t.1 = 0 then (if 0 ≤ t.2 ∧ t.2 < m then some (p + 1) else none)
 else if t.1 = 1 then (if t.2 = 0 ∧ 1 ≤ p then some p else none)
 else if t.1 = 2 ∨ t.1 = 3 then (if t.2 = 0 ∧ 2 ≤ p then some (p - 1) else none)
 else none
def runM (m : Int) : Int → List T → Option Int
 | p,[] => some p
 | p,t :: r => match mkS m p t with
  | some q => runM m q r
  | none => none
end
section
inductive Tm where
 | tst (a : Nat)
 | neg (x : Tm)
 | and (x y : Tm)
 | or (x y : Tm)
def ev (s : Nat) : Tm → Bool
 | .tst a => s.testBit a
 | .neg x => !ev s x
 | .and x y => ev s x && ev s y
 | .or x y => ev s x || ev s y
/-- how many parts a mark takes -/
def taken (k : Int) : Nat := if k = 0 then 0 else if k = 1 then 1 else 2
def stepG {P : Type} (mk : T → List P → P) (st : List P) (t : T) : List P := st.take (st.length - taken t.1) ++ [mk t (st.drop (st.length - taken t.1))]
def yesW (a : Nat) : BitVec 32 := match a with
 | 0 => 2863311530#32
 | 1 => 3435973836#32
 | 2 => 4042322160#32
 | 3 => 4278255360#32
 | _ => 4294901760#32
def mkW (t : T) (ps : List (BitVec 32)) : BitVec 32 :=
 if t.1 = 0 then yesW t.2.toNat else if t.1 = 1 then ~~~(ps.getD 0 0) else if t.1 = 2 then ps.getD 0 0 &&& ps.getD 1 0 else ps.getD 0 0 ||| ps.getD 1 0
def tsW (ts : List T) : BitVec 32 := (ts.foldl (stepG mkW) []).headD 0
/-- the value of a term in a state -/
def tv (ts : List T) (s : Nat) : Bool := (tsW ts).getLsbD s
end
section
def hs (bs : List Nat) (p : Int) : Int := (bs.getD (p.tmod bs.length).toNat 0 : Nat) * 131 + (bs.getD ((p * 7 + 3).tmod bs.length).toNat 0 : Nat) * 1117 + p * 29 + p.tdiv bs.length * 53
def pk (bs : List Nat) (p n : Int) : Int := if bs.length = 0 then 0 else if p < bs.length then ((bs.getD p.toNat 0 : Nat) : Int).tmod n else (xorI (hs bs p) ((hs bs p).tdiv 64)).tmod n
theorem byte_lt {bs : List Nat} (hb : ∀ y ∈ bs,y < 256) (i : Nat) : bs.getD i 0 < 256 := by
 by_cases h : i < bs.length
 ·have : bs.getD i 0 = bs[i] := by simp [List.getD,h]
  rw [this]
  exact hb _ (List.getElem_mem h)
 ·have : bs.getD i 0 = 0 := by simp [List.getD,List.getElem?_eq_none (by omega : bs.length ≤ i)]
  omega
end
section
theorem cells_st (cs : List DV) : (DV.st cs).cells = cs := rfl
theorem cells_sl (p : Nat) (es : List DV) : (DV.sl p es).cells = [DV.sl p es] := rfl
theorem cells_i (n : Int) : (DV.i n).cells = [DV.i n] := rfl
theorem cells_y (n : Nat) : (DV.y n).cells = [DV.y n] := rfl
theorem cells_b (n : Bool) : (DV.b n).cells = [DV.b n] := rfl
theorem cells_s (n : List UInt8) : (DV.s n).cells = [DV.s n] := rfl
attribute [-simp] DV.cells
attribute [local simp] cells_st cells_sl cells_i cells_y cells_b cells_s
def row (t : List T) : DV := .sl 1 (t.map e2)
theorem flat_set (m : T) : ∀ {ps : List (List T)} {A : Nat} {t : List T},ps[A]? = some t → (ps.set A (t ++ [m])).flatten.length = ps.flatten.length + 1
 | [],_,_,h => by simp at h
 | x :: ps,0,t,h => by simp at h; subst h; simp; omega
 | x :: ps,A + 1,t,h => by
  simp only [List.getElem?_cons_succ] at h
  have := flat_set m h
  simp at this ⊢
  omega
theorem flat_len : ∀ {ps : List (List T)} {A : Nat} {t : List T},ps[A]? = some t → t.length ≤ ps.flatten.length
 | [],_,_,h => by simp at h
 | x :: ps,0,t,h => by simp at h; subst h; simp
 | x :: ps,A + 1,t,h => by
  simp only [List.getElem?_cons_succ] at h
  have := flat_len h
  simp only [List.flatten_cons,List.length_append]; omega
end
section
attribute [-simp] DV.cells
attribute [local simp] cells_st cells_sl cells_i cells_y cells_b cells_s
theorem cells_w (x : BitVec 32) : (DV.w x).cells = [DV.w x] := rfl
attribute [local simp] cells_w
end
section
attribute [-simp] DV.cells
attribute [local simp] cells_st cells_sl cells_i cells_y cells_b cells_s cells_w
attribute [-simp] sliceD
def bI (b : Bool) : Int := if b then 1 else 0
end
section
attribute [-simp] DV.cells sliceD
attribute [local simp] cells_st cells_sl cells_i cells_y cells_b cells_s cells_w
theorem shl_bI (b : Bool) {s : Nat} (hs : s ≤ 40) : shlI (bI b) s = ((if b then 2 ^ s else 0 : Nat) : Int) := by
 cases b with
 | true =>
  have := shl1 (k := (s : Int)) (by omega) (by omega)
  simp [bI,this]
 | false =>
  unfold shlI bI
  simp
  exact wr_id (by omega) (by omega)
theorem bit_bI {a s : Nat} (hs : s ≤ 60) : (shrI (a : Int) (s : Int)).tmod 2 = bI (a.testBit s) := by
 rw [shr1 (by omega) (by omega),tmod2 (Int.ediv_nonneg (by omega) (Int.le_of_lt (Int.pow_pos (by omega))))]
 unfold bI
 rw [Nat.testBit_eq_decide_div_mod_eq,Int.toNat_natCast]
 have : (a : Int) / 2 ^ s % 2 = ((a / 2 ^ s % 2 : Nat) : Int) := by simp
 rw [this]
 by_cases h : a / 2 ^ s % 2 = 1
 ·simp [h]
 ·have : a / 2 ^ s % 2 = 0 := by omega
  simp [this]
theorem pow5 {m : Int} (h1 : 1 ≤ m) (h5 : m ≤ 5) : 2 ≤ 2 ^ m.toNat ∧ 2 ^ m.toNat ≤ 32 ∧ ((2 ^ m.toNat : Nat) : Int) = 2 ^ m.toNat := by
 have c : m = 1 ∨ m = 2 ∨ m = 3 ∨ m = 4 ∨ m = 5 := by omega
 rcases c with rfl | rfl | rfl | rfl | rfl <;> decide
end
section
attribute [-simp] DV.cells sliceD
attribute [local simp] cells_st cells_sl cells_i cells_y cells_b cells_s cells_w
/-- 1 if f holds wherever g does below N,0 if nowhere,else -1 -/
def fo (f g : Nat → Bool) (N : Nat) : Int := if allTo (fun s => !g s || f s) N then 1 else if allTo (fun s => !g s || !f s) N then 0 else -1
/-- What the states say that agree. -/
def agB (ks : List Int) (s : Nat) : Bool := ag ks (s : Int)
end
section
attribute [-simp] DV.cells sliceD
attribute [local simp] cells_st cells_sl cells_i cells_y cells_b cells_s cells_w
/-- what is known of a term by what is known of its tests -/
def foT (m : Int) (ts : List T) (ks : List Int) : Int := fo (tv ts) (agB ks) (2 ^ m.toNat)
def told (m : Nat) (st so : Nat) : List Int := (List.range m).map fun k => if so.testBit k then bI (st.testBit k) else -1
theorem bI_eq1 (b : Bool) : (bI b == 1) = b := by cases b <;> rfl
end
section
attribute [-simp] DV.cells sliceD
attribute [local simp] cells_st cells_sl cells_i cells_y cells_b cells_s cells_w
def agW : List Int → Nat → BitVec 32 → BitVec 32
 | [],_,w => w
 | k :: r,i,w => agW r (i + 1) (if k = 0 then w &&& ~~~(yesW i) else if k = 1 then w &&& yesW i else w)
end
section
attribute [-simp] DV.cells sliceD
attribute [local simp] cells_st cells_sl cells_i cells_y cells_b cells_s cells_w
theorem div_bI (a s : Nat) : (a : Int) / 2 ^ s % 2 = bI (a.testBit s) := by
 unfold bI
 rw [Nat.testBit_eq_decide_div_mod_eq]
 have : (a : Int) / 2 ^ s % 2 = ((a / 2 ^ s % 2 : Nat) : Int) := by simp
 rw [this]
 by_cases h : a / 2 ^ s % 2 = 1
 ·simp [h]
 ·have : a / 2 ^ s % 2 = 0 := by omega
  simp [this]
theorem c_impl_hasTest (so k : Nat) (hk : k ≤ 40) : call lf n_impl_hasTest [.i so,.i k] = some (.b (so.testBit k),[]) := by
 rw [call_k lf n_impl_hasTest _ (F := F_impl_hasTest) rfl rfl]
 have ni : ¬ (k : Int) < 0 := by omega
 have e : andI (shrI (so : Int) (k : Int)) 1 = bI (so.testBit k) := by
  rw [bit_and,shr1 (by omega) (by omega),Int.toNat_natCast,div_bI]
 simp [F_impl_hasTest,ni,e,bI_eq1]
end
section
def cA (us : List T) (a : Nat) : Int := (us.getD a (0,0)).1
end
section
def rng (n : Nat) : List Int := (List.range n).map fun (k : Nat) => (k : Int)
end
section
def hkn (m : Nat) (ks : List Int) (so : Nat) : Prop := ∀ k,k < m → (ks[k]? = some (-1) ↔ so.testBit k = false)
def non (m : Nat) : List Int := List.replicate m (-1)
end
section
def fl (s : Int) (i : Nat) : Bool := s / 2 ^ i % 2 == 1
end
section
attribute [-simp] DV.cells sliceD
attribute [local simp] cells_st cells_sl cells_i cells_y cells_b cells_s cells_w
theorem p6 : ∀ {n : Nat},n ≤ 5 → (1 : Int) ≤ 6 ^ n ∧ (6 : Int) ^ n ≤ 7776 := by
 intro n hn
 have : n = 0 ∨ n = 1 ∨ n = 2 ∨ n = 3 ∨ n = 4 ∨ n = 5 := by omega
 rcases this with rfl | rfl | rfl | rfl | rfl | rfl <;> decide
theorem c_spec_l1Power {n : Nat} (h : n ≤ 5) : call lf n_spec_l1Power [.i n] = some (.i (6 ^ n),[]) := by
 have L := loop_count (lf := lf) (L := F_spec_l1Power_L0) n (fun i => ⟨[(0,.i n),(3,.i (6 ^ i)),(4,.i i)],[]⟩) (x := .exit 0) (R := ⟨[(0,.i n),(3,.i (6 ^ n)),(4,.i n)],[]⟩) (fun i hi => by
  have p := p6 (n := i) (by omega)
  have w1 : wr ((i : Int) + 1) = i + 1 := wr_id (by omega) (by omega)
  have w2 : wr ((6 : Int) ^ i * 6) = 6 ^ (i + 1) := by rw [wr_id (by omega) (by omega),Int.pow_succ]
  simp [F_spec_l1Power_L0,hi,w1,w2]) (by simp [F_spec_l1Power_L0]) (by simp)
 have L' : ex lf F_spec_l1Power_W0 ⟨[(0,.i n),(3,.i 1),(4,.i 0)],[]⟩ = some (.exit 0,⟨[(0,.i n),(3,.i (6 ^ n)),(4,.i n)],[]⟩) := L
 rw [call_k lf n_spec_l1Power _ (F := F_spec_l1Power) rfl rfl]
 simp [F_spec_l1Power,L']
def stW (us : List T) (tab : Nat) (os : List Int) (k : Nat) (ks : List Int) (w a sum sd : Int) : LS :=
 ⟨[(0,.sl 0 (us.map e2)),(1,.i tab),(2,.sl 0 (os.map .i)),(3,.i k),(4,.sl 0 (ks.map .i)),(5,.i w),(13,.i a),(14,.i sum),(15,.i sd)],[]⟩
end
section
attribute [-simp] DV.cells sliceD
attribute [local simp] cells_st cells_sl cells_i cells_y cells_b cells_s cells_w
theorem ren_nil (t id : Nat) (e : Env) (ob : OB) : renL t id e ob .nil = some ⟨e,ob⟩ := rfl
/-- what comes back: nothing is nil -/
def bR (l : List Int) : DV := if l = [] then .sl 1 [] else .fr 1 (l.map .i)
def bD (K : Nat) (b : List Int) : DV := if b = [] then .nil else .own K b.length 0 b.length
def bO (K : Nat) (b : List Int) : OB := if b = [] then [] else [(K,b.map .i)]
end
section
inductive PT where
 | stop
 | ask (k : Nat) (no yes : PT)
def fcd (m : Nat) (t : List T) (ks : List Int) : Bool := foT m t ks != -1
end
section
open Classical in
noncomputable def rc (P : Nat → Prop) : Nat → Nat
 | 0 => 0
 | n + 1 => rc P n + if P n then 1 else 0
end
section
abbrev C3 := Int × Int × Int
/-- a tree with the places of its choices -/
inductive LT where
 | stop
 | ask (p k : Nat) (no yes : LT)
def LT.er : LT → PT
 | .stop => .stop
 | .ask _ k n y => .ask k n.er y.er
def LT.size : LT → Nat
 | .stop => 0
 | .ask _ _ n y => 1 + n.size + y.size
/-- where one may go on to from a place -/
def nxt (N : Nat) (p : Nat) (a : Int) : Prop := a = -1 ∨ ((p : Int) + 1 ≤ a ∧ a ≤ (N : Int) - 1)
instance (N p : Nat) (a : Int) : Decidable (nxt N p a) := by unfold nxt; infer_instance
/-- the row holds the tree,from a place on -/
def enc (P : List C3) : Int → LT → Prop
 | a,.stop => a = -1
 | a,.ask p k n y => a = (p : Int) ∧ ∃ no ye,P[p]? = some ((k : Int),no,ye) ∧ nxt P.length p no ∧ nxt P.length p ye ∧ enc P no n ∧ enc P ye y
/-- where a row goes on to -/
def rfs : List C3 → List Int
 | [] => []
 | (_,no,ye) :: r => (if no = -1 then [] else [no]) ++ (if ye = -1 then [] else [ye]) ++ rfs r
end
section
def PT.size : PT → Nat
 | .stop => 0
 | .ask _ n y => 1 + n.size + y.size
def rot (P : List C3) : Int := if P = [] then -1 else 0
end
section
attribute [-simp] DV.cells
attribute [local simp] sliceD cells_st cells_sl cells_i cells_y cells_b cells_s cells_w
theorem lend_e3 (P : List C3) : lendL (P.map e3) = P.map e3 := by rw [lendL_map,List.map_map]; rfl
theorem adopt_e3 (o : Bool) (P : List C3) : adoptL o (P.map e3) = P.map e3 := by rw [adoptL_map,List.map_map]; rfl
theorem new_e3 (P : List C3) : allNewL (P.map e3) = true := by rw [allNewL_all,List.all_map,List.all_eq_true]; intro x _; rfl
theorem al_e3 (P : List C3) : allOldL (P.map e3) = true := by rw [allOldL_all,List.all_map,List.all_eq_true]; intro x _; rfl
theorem lt_e3 (n : Nat) (P : List C3) : lendL (List.take n (P.map e3)) = List.take n (P.map e3) := by rw [← List.map_take,lend_e3]
attribute [local simp] lend_e3 adopt_e3 new_e3 al_e3 lt_e3
def C3.nx (c : C3) (b : Bool) : Int := if b then c.2.2 else c.2.1
end
section
def sw (c : C3) : C3 := (c.1,c.2.2,c.2.1)
def LT.sw : LT → LT
 | .stop => .stop
 | .ask p k n y => .ask p k y.sw n.sw
end
section
def aN : List Int → Nat
 | [] => 0
 | k :: r => (if k = -1 then 0 else 1) + 2 * aN r
def kn : List Int → Nat
 | [] => 0
 | k :: r => (if k = -1 then 0 else 1) + kn r
/-- how many ones there are,for small numbers -/
def pc (x : Nat) : Nat := x % 2 + x / 2 % 2 + x / 4 % 2 + x / 8 % 2 + x / 16 % 2
/-- what agrees,as a number -/
def lfW (ks : List Int) : BitVec 32 := agW ks 0 (4294967295#32)
end
section
abbrev Pts := List (Option (List Int))
/-- one goes on to where it is noted -/
def go3 (m : Nat) (t : List T) (N : Nat) (pts : Pts) (p : Int) (a : Int) (ks : List Int) : Prop :=
 (a = -1 ∧ fcd m t ks = true) ∨ (p + 1 ≤ a ∧ a ≤ (N : Int) - 1 ∧ pts[a.toNat]? = some (some ks))
structure Inv (m : Nat) (t : List T) (P : List C3) (p : Nat) (pts : Pts) : Prop where
 len : pts.length = P.length
 nd : (rfs (P.take p)).Nodup
 rng : ∀ a ∈ rfs (P.take p),1 ≤ a ∧ a < P.length
 iff_ : ∀ a : Nat,a < P.length → (pts[a]? ≠ some none ↔ (a = 0 ∨ (a : Int) ∈ rfs (P.take p)))
 ok : ∀ (a : Nat) (ks : List Int),pts[a]? = some (some ks) → ks.length = m ∧ ks.all kOk = true ∧ fcd m t ks = false
 loc : ∀ q : Nat,q < p → ∃ (ks : List Int) (k no ye : Int),P[q]? = some (k,no,ye) ∧ pts[q]? = some (some ks) ∧ (0 ≤ k ∧ k < m) ∧ ks[k.toNat]? = some (-1) ∧ go3 m t P.length pts q no (ks.set k.toNat 0) ∧ go3 m t P.length pts q ye (ks.set k.toNat 1)
end
section
attribute [-simp] DV.cells
attribute [local simp] sliceD cells_st cells_sl cells_i cells_y cells_b cells_s cells_w
attribute [local simp] lend_e3 adopt_e3 new_e3 al_e3 lt_e3
def pv (m a : Int) (w v : BitVec 32) : DV := .st [.i m,.i a,.w w,.w v]
/-- the point at which so much is known -/
def pD (m : Nat) (t : List T) (ks : List Int) : DV := pv m (aN ks) (lfW ks) (tsW t)
/-- 64 bits: how many are ones -/
theorem c_OnesCount64 {n : Nat} (h : n < 32) : call lf n_math_bits_OnesCount64 [.q n] = some (.i (pc n),[]) := by
 rw [call_k lf n_math_bits_OnesCount64 _ (F := F_math_bits_OnesCount64) rfl rfl]
 have c : n = 0 ∨ n = 1 ∨ n = 2 ∨ n = 3 ∨ n = 4 ∨ n = 5 ∨ n = 6 ∨ n = 7 ∨ n = 8 ∨ n = 9 ∨ n = 10 ∨ n = 11 ∨ n = 12 ∨ n = 13 ∨ n = 14 ∨ n = 15 ∨ n = 16 ∨ n = 17 ∨ n = 18 ∨ n = 19 ∨ n = 20 ∨ n = 21 ∨ n = 22 ∨ n = 23 ∨ n = 24 ∨ n = 25 ∨ n = 26 ∨ n = 27 ∨ n = 28 ∨ n = 29 ∨ n = 30 ∨ n = 31 := by omega
 rcases c with rfl | rfl | rfl | rfl | rfl | rfl | rfl | rfl | rfl | rfl | rfl | rfl | rfl | rfl | rfl | rfl | rfl | rfl | rfl | rfl | rfl | rfl | rfl | rfl | rfl | rfl | rfl | rfl | rfl | rfl | rfl | rfl <;>
  simp [F_math_bits_OnesCount64,pc,andI,wr,Go.IntKind.wrap,Go.IntKind.signed,Go.IntKind.bits]
theorem c_OnesCount {n : Nat} (h : n < 32) : call lf n_math_bits_OnesCount [.q n] = some (.i (pc n),[]) := by
 have C := c_OnesCount64 h
 rw [call_k lf n_math_bits_OnesCount _ (F := F_math_bits_OnesCount) rfl rfl]
 simp [F_math_bits_OnesCount,C]
theorem c_impl_sizeOf {n : Nat} (h : n < 32) : call lf n_impl_sizeOf [.i n] = some (.i (pc n),[]) := by
 have C := c_OnesCount h
 have e : ((n : Int) % 18446744073709551616).toNat = n := by omega
 rw [call_k lf n_impl_sizeOf _ (F := F_impl_sizeOf) rfl rfl]
 simp [F_impl_sizeOf,C,e]
end
section
attribute [-simp] DV.cells
attribute [local simp] sliceD cells_st cells_sl cells_i cells_y cells_b cells_s cells_w
attribute [local simp] lend_e3 adopt_e3 new_e3 al_e3 lt_e3
def e4 (m : Nat) (t : List T) : Option (List Int) → DV
 | some ks => pD m t ks
 | none => pv 0 0 (0#32) (0#32)
end
section
attribute [-simp] DV.cells
attribute [local simp] sliceD cells_st cells_sl cells_i cells_y cells_b cells_s cells_w
attribute [local simp] lend_e3 adopt_e3 new_e3 al_e3 lt_e3
structure Fin (m : Nat) (t : List T) (P : List C3) (L : LT) (pts : Pts) : Prop where
 inv : Inv m t P P.length pts
 start : go3 m t P.length pts (-1) (rot P) (non m)
end
section
/-- the weight of what is known -/
def kp : List T → List Int → Int
 | t :: r,k :: ks => (if k = -1 then 1 else if k = 1 then t.2 else 6 - t.2) * kp r ks
 | _,_ => 1
end
section
attribute [-simp] DV.cells
attribute [local simp] sliceD cells_st cells_sl cells_i cells_y cells_b cells_s cells_w
theorem c_impl_wholeOf {n : Nat} (hn : n ≤ 5) : call lf n_impl_wholeOf [.i n] = some (.i (6 ^ n),[]) := by
 rw [call_k lf n_impl_wholeOf _ (F := F_impl_wholeOf) rfl rfl]
 have L := loop_count (lf := lf) (L := F_impl_wholeOf_L0) n (fun i => ⟨[(3,.i (6 ^ i)),(4,.i n),(5,.i i)],[]⟩) (x := .exit 0) (R := ⟨[(3,.i (6 ^ n)),(4,.i n),(5,.i n)],[]⟩) (fun i hi => by
  have p := p6 (n := i) (by omega)
  have w1 : wr ((i : Int) + 1) = i + 1 := wr_id (by omega) (by omega)
  have w2 : wr ((6 : Int) ^ i * 6) = 6 ^ i * 6 := wr_id (by omega) (by omega)
  simp [F_impl_wholeOf_L0,hi,w1,w2,Int.pow_succ]) (by simp [F_impl_wholeOf_L0]) (by simp)
 have L' : ex lf F_impl_wholeOf_W0 ⟨[(3,.i 1),(4,.i n),(5,.i 0)],[]⟩ = some (.exit 0,⟨[(3,.i (6 ^ n)),(4,.i n),(5,.i n)],[]⟩) := L
 simp [F_impl_wholeOf,L']
end
section
/-- what it costs,the parts in which it ends all,and its whole -/
abbrev I3 := Int × Int × Int
def gM : List I3 → Int
 | [] => 1
 | x :: r => x.2.2 * gM r
def gD : List I3 → Int
 | [] => 0
 | x :: r => x.1 * gM r + (x.2.2 - x.2.1) * gD r
end
section
def pA (us : List T) (k : Nat) : Int := (us.getD k (0,0)).2
theorem pA_bd {us : List T} (h : us.all tOk = true) {k : Nat} (hk : k < us.length) : 1 ≤ pA us k ∧ pA us k ≤ 5 := by
 unfold pA
 have e : us.getD k (0,0) = us[k] := by simp [List.getD,hk]
 rw [e]
 have := tOk_iff.1 (List.all_eq_true.1 h us[k] (List.getElem_mem hk))
 omega
/-- groups: all tests,each once -/
structure Gok (m : Nat) (L : List (List Nat)) : Prop where
 lt : ∀ g ∈ L,∀ k ∈ g,k < m
 nd : L.flatten.Nodup
 all : ∀ k,k < m → k ∈ L.flatten
 ne : ∀ g ∈ L,g ≠ []
end
section
theorem gok_len {m : Nat} {L : List (List Nat)} (G : Gok m L) : L.flatten.length = m := by
 have : L.flatten.Perm (List.range m) := (List.perm_ext_iff_of_nodup G.nd List.nodup_range).2 fun k => by
  rw [List.mem_range]
  refine ⟨fun hk => ?_,G.all k⟩
  obtain ⟨g,h1,h2⟩ := List.mem_flatten.1 hk
  exact G.lt g h1 k h2
 rw [this.length_eq,List.length_range]
end
section
attribute [-simp] DV.cells
attribute [local simp] sliceD cells_st cells_sl cells_i cells_y cells_b cells_s cells_w
theorem lend_eR (L : List (List Int)) : lendL (L.map eR) = L.map eR := by
 rw [lendL_map,List.map_map]
 apply List.map_congr_left
 intro r _
 simp [eR,DV.lend]
theorem al_eR (L : List (List Int)) : allOldL (L.map eR) = true := by
 rw [allOldL_all,List.all_map,List.all_eq_true]
 intro r _
 simp [eR,DV.allOld]
attribute [local simp] lend_eR al_eR
end
section
attribute [-simp] DV.cells
attribute [local simp] sliceD cells_st cells_sl cells_i cells_y cells_b cells_s cells_w
attribute [local simp] lend_eR al_eR
theorem at_eR {A : List (List Int)} {k : Nat} {r : List Int} (h : A[k]? = some r) : atI (A.map eR) (k : Int) = some (.sl 0 (r.map .i)) := by
 simp only [atI,if_pos (Int.natCast_nonneg k)]
 show (A.map eR)[(k : Int).toNat]? = _
 rw [Int.toNat_natCast,List.getElem?_map,h]; rfl
theorem atI_int {r : List Int} {j : Nat} {a : Int} (h : r[j]? = some a) : atI (r.map DV.i) (j : Int) = some (.i a) := by
 simp only [atI,if_pos (Int.natCast_nonneg j)]
 show (r.map DV.i)[(j : Int).toNat]? = _
 rw [Int.toNat_natCast,List.getElem?_map,h]; rfl
theorem wr_succ {k : Nat} (h : (k : Int) < 1099511627776) : wr ((k : Int) + 1) = ((k + 1 : Nat) : Int) := by rw [wr_id (by omega) (by omega)]; omega
end
section
attribute [-simp] DV.cells
attribute [local simp] sliceD cells_st cells_sl cells_i cells_y cells_b cells_s cells_w
attribute [local simp] lend_eR al_eR
def eN (r : List Int) : DV := .sl 1 (r.map .i)
theorem lend_eN (L : List (List Int)) : lendL (L.map eN) = L.map eR := by
 rw [lendL_map,List.map_map]
 apply List.map_congr_left
 intro r _
 simp [eN,eR,DV.lend]
theorem adopt_eN (o : Bool) (L : List (List Int)) : adoptL o (L.map eN) = L.map eN := by
 rw [adoptL_map,List.map_map]
 apply List.map_congr_left
 intro r _
 simp [eN,DV.adopt,adoptP]
theorem new_eN (L : List (List Int)) : allNewL (L.map eN) = true := by
 rw [allNewL_all,List.all_map,List.all_eq_true]
 intro r _
 simp [eN,DV.allNew,newP]
attribute [local simp] lend_eN adopt_eN new_eN
theorem c_eqIntSS_self (A : List (List Int)) (hA : (A.length : Int) ≤ 1048576) (hr : ∀ r ∈ A,(r.length : Int) ≤ 1048576) : call lf n_laws_eqIntSS [.sl 0 (A.map eR),.sl 0 (A.map eR)] = some (.b true,[]) := by
 rw [call_k lf n_laws_eqIntSS _ (F := F_laws_eqIntSS) rfl rfl]
 have L : ex lf F_laws_eqIntSS_W0 ⟨[(0,.sl 0 (A.map eR)),(1,.sl 0 (A.map eR)),(5,.i 0)],[]⟩ = some (.exit 0,⟨[(0,.sl 0 (A.map eR)),(1,.sl 0 (A.map eR)),(5,.i A.length)],[]⟩) := by
  refine loop_count A.length (fun i => ⟨[(0,.sl 0 (A.map eR)),(1,.sl 0 (A.map eR)),(5,.i i)],[]⟩) (fun i hi => ?_) ?_ (by simp)
  ·have hi' : (i : Int) < A.length := by omega
   have k2 : A[i]? = some A[i] := List.getElem?_eq_getElem hi
   have at1 := at_eR k2
   have T := c_eqIntS_self A[i] (hr _ (List.getElem_mem hi))
   have w1 : wr ((i : Int) + 1) = (i : Int) + 1 := wr_id (by omega) (by omega)
   generalize A[i] = r at *
   simp [F_laws_eqIntSS_L0,hi,hi',at1,T,w1]
  ·simp [F_laws_eqIntSS_L0]
 simp [F_laws_eqIntSS,L]
end
section
attribute [-simp] DV.cells
attribute [local simp] sliceD cells_st cells_sl cells_i cells_y cells_b cells_s cells_w
attribute [local simp] lend_eR al_eR lend_eN adopt_eN new_eN
theorem mk1_marks (k : Int) (n : Nat) : mk1 k n = (marksI k n).map .i := by simp [mk1,marksI]
set_option maxHeartbeats 4000000 in
theorem cut_markIntS (xs : List Int) (n : Nat) (k : Int) (k0 : 0 ≤ k) (k1 : k ≤ 1000000000) (hn : n ≤ 1048576) (hl : n ≤ xs.length) : ∃ S,ex lf F_laws_markIntS.body ⟨[(0,.own 15 xs.length 0 n),(1,.i k)],[(15,xs.map .i)]⟩ = some (.ret,S) ∧ resV S F_laws_markIntS.results = some [.i (k + n)] ∧ lookO S.ob 15 = some ((marksI k n ++ xs.drop n).map .i) := by
 have L := loop_count (lf := lf) (L := F_laws_markIntS_L0) n (fun i => ⟨[(0,.own 15 xs.length 0 n),(1,.i (k + i)),(5,.i i)],[(15,mk1 k i ++ (xs.map .i).drop i)]⟩) (x := .exit 0) (R := ⟨[(0,.own 15 xs.length 0 n),(1,.i (k + n)),(5,.i n)],[(15,mk1 k n ++ (xs.map .i).drop n)]⟩) (fun i hi => by
  have w1 : wr ((i : Int) + 1) = (i : Int) + 1 := wr_id (by omega) (by omega)
  have w2 : wr (k + i + 1) = k + (i + 1 : Nat) := by rw [wr_id (by omega) (by omega)]; omega
  have hi' : (i : Int) < n := by omega
  have hix : i < xs.length := by omega
  have hix' : (i : Int) < xs.length := by omega
  have e := split_at (es := xs.map DV.i) (i := i) (by simpa using hix)
  rw [List.getElem_map] at e
  rw [mk1_succ,e]
  have hA := mk1_len k i
  have lB : (List.drop (i + 1) (xs.map DV.i)).length = xs.length - (i + 1) := by simp
  generalize xs[i] = x at *
  generalize List.drop (i + 1) (xs.map DV.i) = B at *
  generalize mk1 k i = A at *
  have q1 := mid_at (B := B) hA
  have q2 := mid_set (B := B) hA
  have q3 : ∀ x : DV,(A ++ x :: B).length = xs.length := fun x => by simp [hA,lB]; omega
  rw [show A ++ [DV.i (k + ↑i)] ++ B = A ++ DV.i (k + ↑i) :: B by simp]
  have tl : (List.take n (A ++ DV.i x :: B)).length = n := by rw [List.length_take,q3]; omega
  simp [F_laws_markIntS_L0,hi,hi',hix,hix',hl,w1,w2,q1,q2,q3,tl,-List.length_append,-List.length_cons]) (by
  have lm : (mk1 k n ++ List.drop n (xs.map DV.i)).length = xs.length := by rw [List.length_append,mk1_len,List.length_drop,List.length_map]; omega
  have tl : (List.take n (mk1 k n ++ List.drop n (xs.map DV.i))).length = n := by rw [List.length_take,lm]; omega
  generalize mk1 k n ++ List.drop n (xs.map DV.i) = Z at *
  simp [F_laws_markIntS_L0,lm,tl,hl]) (by simp)
 have z : mk1 k 0 ++ (xs.map DV.i).drop 0 = xs.map .i := by simp [mk1]
 rw [z] at L
 have L' : ex lf F_laws_markIntS_W0 ⟨[(0,.own 15 xs.length 0 n),(1,.i k),(5,.i 0)],[(15,xs.map .i)]⟩ = some (.exit 0,⟨[(0,.own 15 xs.length 0 n),(1,.i (k + n)),(5,.i n)],[(15,mk1 k n ++ (xs.map .i).drop n)]⟩) := by
  have := L
  simp only [Int.natCast_zero,Int.add_zero] at this
  exact this
 have fin : mk1 k n ++ (xs.map DV.i).drop n = (marksI k n ++ xs.drop n).map .i := by rw [mk1_marks,List.map_append,List.map_drop]
 rw [fin] at L'
 generalize (marksI k n ++ xs.drop n).map DV.i = Z at *
 simp [F_laws_markIntS,L',resV]
theorem nil_markIntS (k : Int) : call lf n_laws_markIntS [.sl 0 [],.i k] = some (.i k,[]) := by
 rw [call_k lf n_laws_markIntS _ (F := F_laws_markIntS) rfl rfl]
 have L : ex lf F_laws_markIntS_W0 ⟨[(0,.sl 0 []),(1,.i k),(5,.i 0)],[]⟩ = some (.exit 0,⟨[(0,.sl 0 []),(1,.i k),(5,.i 0)],[]⟩) := by
  rw [w_laws_markIntS_0]
  simp [F_laws_markIntS_L0]
 simp [F_laws_markIntS,L]
theorem body_of {P : Go.Program} {dc : Array Go.Oper → Bool} (hok : ∀ f F,lf f = some F → OkF P dc f F) (hD : ∀ Γ,FnSound P Γ → DrawOk P Γ dc) (hB : BackSound P) {f : Nat} {args : List DV} {r : DV × List DV} (h : call lf f args = some r) : hasBody P f = true := by
 obtain ⟨n,hn⟩ := call_iff.1 h
 exact (callN_sound hok hD hB n f args r hn).1
theorem row_markIntS {P : Go.Program} {dc : Array Go.Oper → Bool} (hok : ∀ f F,lf f = some F → OkF P dc f F) (hD : ∀ Γ,FnSound P Γ → DrawOk P Γ dc) (hB : BackSound P) (k : Int) (n : Nat) (k0 : 0 ≤ k) (k1 : k ≤ 1000000000) (hn : n ≤ 1048576) : MarksRow P n_laws_markIntS k n := by
 have hb := body_of hok hD hB (nil_markIntS k)
 exact ⟨hb,fun _ => marks_nil hb (call_sound hok hD hB (nil_markIntS k)),fun _ => marks_cut hok hD hB (F := F_laws_markIntS) rfl rfl rfl rfl (by omega) (fun rs hl => by
  obtain ⟨S,h1,h2,h3⟩ := cut_markIntS rs n k k0 k1 hn hl
  exact ⟨.ret,S,.inr rfl,h1,h2,h3⟩) hb⟩
theorem totR_flat : ∀ L : List (List Int),totR L = L.flatten.length
 | [] => rfl
 | r :: L => by simp only [totR,List.flatten_cons,List.length_append,totR_flat L]
theorem totR_take : ∀ (rs : List (List Int)) (i : Nat),totR (rs.take i) ≤ totR rs
 | [],i => by simp [totR]
 | r :: rs,0 => by simp [totR]
 | r :: rs,i + 1 => by
  have := totR_take rs i
  simp only [List.take_succ_cons,totR]
  omega
theorem totR_mem : ∀ (rs : List (List Int)) (i : Nat) (r : List Int),rs[i]? = some r → r.length ≤ totR rs
 | [],i,r,h => by simp at h
 | s :: rs,0,r,h => by
  simp only [List.getElem?_cons_zero,Option.some.injEq] at h
  subst h
  simp only [totR]
  omega
 | s :: rs,i + 1,r,h => by
  have := totR_mem rs i r (by simpa using h)
  simp only [totR]
  omega
/-- the marks of a row of rows -/
theorem rows_markIntSS {P : Go.Program} {dc : Array Go.Oper → Bool} (hok : ∀ f F,lf f = some F → OkF P dc f F) (hD : ∀ Γ,FnSound P Γ → DrawOk P Γ dc) (hB : BackSound P) (rs : List (List Int)) (k : Int) (k0 : 0 ≤ k) (k1 : k ≤ 100000000) (hn : rs.length ≤ 1048576) (ht : totR rs ≤ 1048576) :
  Marks P n_laws_markIntSS (dRs rs) k (fun d => ∃ ss,d = dRs ss ∧ ss.map List.length = rs.map List.length ∧ (Dst rs → ss = mrkR k rs)) (k + totR rs) :=
 marks_rows hok hD hB (F := F_laws_markIntSS) rfl rfl rfl rfl rfl hn (fun i r hr => row_markIntS hok hD hB _ _ (by omega) (by have := totR_take rs i; omega) (by have := totR_mem rs i r hr; omega))
theorem flat_e2 : ∀ xs : List T,flat (xs.map e2) = xs.flatMap fun x => [DV.i x.1,.i x.2]
 | [] => rfl
 | x :: xs => by rw [List.map_cons,flat_cons,flat_e2 xs]; rfl
theorem ints_e2 (xs : List T) : intsC (flat (xs.map e2)) := by
 rw [flat_e2]
 intro c hc
 obtain ⟨x,_,hx⟩ := List.mem_flatMap.1 hc
 simp only [List.mem_cons,List.not_mem_nil,or_false] at hx
 rcases hx with rfl | rfl
 ·exact ⟨_,rfl⟩
 ·exact ⟨_,rfl⟩
theorem nil_markTestS (k : Int) : call lf n_laws_markTestS [.sl 0 [],.i k] = some (.i k,[]) := by
 rw [call_k lf n_laws_markTestS _ (F := F_laws_markTestS) rfl rfl]
 have L : ex lf F_laws_markTestS_W0 ⟨[(0,.sl 0 []),(1,.i k),(5,.i 0)],[]⟩ = some (.exit 0,⟨[(0,.sl 0 []),(1,.i k),(5,.i 0)],[]⟩) := by
  rw [w_laws_markTestS_0]
  simp [F_laws_markTestS_L0]
 simp [F_laws_markTestS,L]
theorem row_markTestS {P : Go.Program} {dc : Array Go.Oper → Bool} (hok : ∀ f F,lf f = some F → OkF P dc f F) (hD : ∀ Γ,FnSound P Γ → DrawOk P Γ dc) (hB : BackSound P) (xs : List T) (k : Int) (k0 : 0 ≤ k) (k1 : k ≤ 1000000000) (hl : xs.length ≤ 1048576) : Marks P n_laws_markTestS (.sl 1 (xs.map e2)) k (fun _ => True) (k + 2 * xs.length) := by
 have hb := body_of hok hD hB (nil_markTestS k)
 by_cases h : xs = []
 ·subst h
  have := (marks_nil hb (call_sound hok hD hB (nil_markTestS k))).mono (R' := fun _ => True) (fun _ _ => trivial)
  simpa using this
 ·obtain ⟨u,e,_⟩ := mk2_map k xs.length
  have C := call_sound hok hD hB (c_markTestS xs k k0 k1 hl)
  rw [e] at C
  exact (marks_flat hb C (by simpa using h) (fun e he => by
   obtain ⟨x,_,rfl⟩ := List.mem_map.1 he
   rfl) ⟨by omega,by omega⟩ (ints_e2 xs) (ints_e2 u)).mono (fun _ _ => trivial)
theorem mrk_at : ∀ (k : Int) (rs : List (List Int)) (i : Nat) (r : List Int),rs[i]? = some r → (mrkR k rs)[i]? = some (marksI (k + totR (rs.take i)) r.length)
 | k,[],i,r,h => by simp at h
 | k,s :: rs,0,r,h => by
  simp only [List.getElem?_cons_zero,Option.some.injEq] at h
  subst h
  simp [mrkR,totR]
 | k,s :: rs,i + 1,r,h => by
  have := mrk_at (k + s.length) rs i r (by simpa using h)
  simp only [mrkR,List.getElem?_cons_succ,List.take_succ_cons,totR]
  rw [this]
  congr 2
  omega
/-- and what is found again -/
theorem c_heldIntSS (rs : List (List Int)) (k : Int) (k0 : 0 ≤ k) (k1 : k ≤ 100000000) (hn : rs.length ≤ 1048576) (ht : totR rs ≤ 1048576) : call lf n_laws_heldIntSS [.sl 0 ((mrkR k rs).map eR),.i k] = some (.i (k + totR rs),[]) := by
 rw [call_k lf n_laws_heldIntSS _ (F := F_laws_heldIntSS) rfl rfl]
 have ml := mrkR_len k rs
 have lA : ((mrkR k rs).map eR).length = rs.length := by simp [ml]
 have A : ∀ (i : Nat) (r : List Int),rs[i]? = some r → atI ((mrkR k rs).map eR) (i : Int) = some (.sl 0 (mk1 (k + totR (rs.take i)) r.length)) := fun i r hr => by
  have := at_eR (mrk_at k rs i r hr)
  rw [this,mk1_marks]
 generalize (mrkR k rs).map eR = es at *
 have L := loop_count (lf := lf) (L := F_laws_heldIntSS_L0) rs.length (fun i => ⟨[(0,.sl 0 es),(1,.i (k + totR (rs.take i))),(5,.i i)],[]⟩) (x := .exit 0) (R := ⟨[(0,.sl 0 es),(1,.i (k + totR rs)),(5,.i rs.length)],[]⟩) (fun i hi => by
  obtain ⟨r,hr⟩ : ∃ r,rs[i]? = some r := ⟨rs[i],List.getElem?_eq_getElem hi⟩
  have w1 : wr ((i : Int) + 1) = (i : Int) + 1 := wr_id (by omega) (by omega)
  have hi' : (i : Int) < rs.length := by omega
  have at1 := A i r hr
  have t1 := totR_take rs i
  have t2 := totR_mem rs i r hr
  have C := c_heldIntS r.length (k + totR (rs.take i)) (by omega) (by omega) (by omega)
  have n0 : ¬ k + (totR (rs.take i) : Int) + (r.length : Int) < 0 := by omega
  have e : (totR (rs.take (i + 1)) : Int) = totR (rs.take i) + r.length := by
   rw [List.take_add_one,hr,Option.toList_some,totR_app]
   simp [totR]
  rw [e,← Int.add_assoc]
  generalize (totR (rs.take i) : Int) = z at *
  have lk : lendL (mk1 (k + z) r.length) = mk1 (k + z) r.length := by rw [mk1_marks]; exact lend_i _
  simp [F_laws_heldIntSS_L0,hi,hi',lA,at1,lk,C,n0,w1]) (by
  rw [List.take_length]
  simp [F_laws_heldIntSS_L0,lA]) (by simp)
 have L' : ex lf F_laws_heldIntSS_W0 ⟨[(0,.sl 0 es),(1,.i k),(5,.i 0)],[]⟩ = some (.exit 0,⟨[(0,.sl 0 es),(1,.i (k + totR rs)),(5,.i rs.length)],[]⟩) := by
  have := L
  simp only [Int.natCast_zero,Int.add_zero,List.take_zero,totR] at this
  exact this
 simp [F_laws_heldIntSS,L']
end
section
structure CS where
 c : Nat → Int
 p : Nat → Int
 q : Nat → Int
 lA : Nat → Nat → Bool
 lB : Nat → Nat → Bool
 ch : List Nat → Nat → Nat
def rk (l : Nat → Nat → Bool) (S : List Nat) (i : Nat) : Nat := S.countP fun x => l x i
/-- what the rule costs -/
def vR (C : CS) : Nat → List Nat → Nat → Int
 | 0,_,_ => 0
 | f + 1,S,k => if k = 0 ∨ S.length < k then 0 else 6 ^ S.length * C.c (C.ch S k) + C.p (C.ch S k) * vR C f (S.erase (C.ch S k)) (k - 1) + C.q (C.ch S k) * vR C f (S.erase (C.ch S k)) k
def CS.V (C : CS) (S : List Nat) (k : Nat) : Int := vR C S.length S k
def CS.W (C : CS) (S : List Nat) (k i : Nat) : Int := 6 ^ S.length * C.c i + C.p i * C.V (S.erase i) (k - 1) + C.q i * C.V (S.erase i) k
end
section
/-- tests,the two orders by ratios,and the least test of both -/
def tltA (us : List T) (a b : Nat) : Bool := decide (cA us a * pA us b < cA us b * pA us a ∨ cA us b * pA us a = cA us a * pA us b ∧ a < b)
def tltB (us : List T) (a b : Nat) : Bool := decide (cA us a * (6 - pA us b) < cA us b * (6 - pA us a) ∨ cA us b * (6 - pA us a) = cA us a * (6 - pA us b) ∧ a < b)
def bothL (us : List T) (S : List Nat) (k : Nat) : List Nat := S.filter fun i => decide (rk (tltA us) S i < k) && decide (rk (tltB us) S i + k ≤ S.length)
def cs (us : List T) : CS := ⟨cA us,pA us,fun i => 6 - pA us i,tltA us,tltB us,fun S k => (bothL us S k).headD 0⟩
end
section
/-- what is not known,and how many yes -/
def unk (m : Nat) (ks : List Int) : List Nat := (List.range m).filter fun k => ks[k]? == some (-1)
end
section
def gS : List I3 → Int
 | [] => 1
 | x :: r => (x.2.2 - x.2.1) * gS r
/-- the parts in which a row ends -/
def gE (l : List I3) : Int := gM l - gS l
/-- cost less a ratio (x by y) times the parts that end -/
def gf (x y : Int) (l : List I3) : Int := y * gD l - x * gE l
theorem gf_nil (x y : Int) : gf x y [] = 0 := by simp [gf,gD,gE,gM,gS]
theorem gf_cons (x y : Int) (a : I3) (l : List I3) : gf x y (a :: l) = (y * a.1 - x * a.2.1) * gM l + (a.2.2 - a.2.1) * gf x y l := by
 unfold gf gE
 simp only [gD,gM,gS]
 grind
/-- what is carried along never falls below nothing -/
def Car (x y A s : Int) (l : List I3) : Prop := ∀ P Q,l = P ++ Q → 0 ≤ A * gM P + s * gf x y P
theorem Car.next {x y A s : Int} {a : I3} {l : List I3} (h : Car x y A s (a :: l)) : Car x y (A * a.2.2 + s * (y * a.1 - x * a.2.1)) (s * (a.2.2 - a.2.1)) l := fun P Q e => by
 have := h (a :: P) Q (by rw [e]; rfl)
 rw [gf_cons] at this
 simp only [gM] at this
 grind
theorem Car.head {x y A s : Int} {a : I3} {l : List I3} (h : Car x y A s (a :: l)) : 0 ≤ A * a.2.2 + s * (y * a.1 - x * a.2.1) := by
 have := h [a] l rfl
 rw [gf_cons,gf_nil] at this
 simp only [gM] at this
 grind
end
section
attribute [-simp] DV.cells
attribute [local simp] sliceD cells_st cells_sl cells_i cells_y cells_b cells_s cells_w
attribute [local simp] lend_eR al_eR
def ni (l : List Nat) : List Int := l.map fun k : Nat => (k : Int)
theorem ni_len (l : List Nat) : (ni l).length = l.length := by simp [ni]
theorem ni_app (p q : List Nat) : ni (p ++ q) = ni p ++ ni q := by simp [ni]
theorem atT {us : List T} {k : Nat} (hk : k < us.length) : atI (us.map e2) (k : Int) = some (.st [.i (cA us k),.i (pA us k)]) := by
 simp only [atI,if_pos (Int.natCast_nonneg k)]
 show (us.map e2)[(k : Int).toNat]? = _
 rw [Int.toNat_natCast,List.getElem?_map,List.getElem?_eq_getElem hk]
 unfold cA pA
 simp [List.getD,hk,e2]
theorem cA_bd {us : List T} (h : us.all tOk = true) {k : Nat} (hk : k < us.length) : 1 ≤ cA us k ∧ cA us k ≤ 9 := by
 have := tOk_iff.1 (List.all_eq_true.1 h us[k] (List.getElem_mem hk))
 unfold cA
 simp only [List.getD,List.getElem?_eq_getElem hk,Option.getD_some]
 exact this.1
theorem at_ni {L : List Nat} {j k : Nat} (h : L[j]? = some k) : atI ((ni L).map DV.i) (j : Int) = some (.i k) ∧ atN ((ni L).map DV.i) j = some (.i k) := by
 have h' : (ni L)[j]? = some (k : Int) := by unfold ni; rw [List.getElem?_map,h]; rfl
 refine ⟨atI_int h',?_⟩
 show ((ni L).map DV.i)[j]? = _
 rw [List.getElem?_map,h']; rfl
end
section
/-- a test in the row of all -/
def itC (us : List T) (k : Nat) : I3 := (6 * cA us k,6 - pA us k,6)
def mnO (f : Nat → Option Int) : Nat → Int
 | 0 => -1
 | i + 1 => match f i with
  | none => mnO f i
  | some n => if mnO f i < 0 ∨ n < mnO f i then n else mnO f i
end
section
def c9 (us : List T) (l : List Nat) : Int := gD (l.map (itC us))
def e9 (us : List T) (l : List Nat) : Int := gE (l.map (itC us))
abbrev LN := List (List Nat)
end
section
def gLA (us : List T) (L : LN) (f : Nat) (v : LN → Int) (i : Nat) : Option Int := match L.getD i [] with
 | [] => none
 | k :: c => some (cA us k * 6 ^ (f + 1) + pA us k * v (L.set i c))
def m0 (g : Nat → Option Int) (i : Nat) : Int := if mnO g i < 0 then 0 else mnO g i
def lA (us : List T) : Nat → LN → Int
 | 0,_ => 0
 | f + 1,L => m0 (gLA us L f (lA us f)) L.length
theorem p6_pos (n : Nat) : (0 : Int) < 6 ^ n := Int.pow_pos (by decide)
end
section
attribute [-simp] DV.cells
attribute [local simp] sliceD cells_st cells_sl cells_i cells_y cells_b cells_s cells_w
attribute [local simp] lend_eR al_eR
/-- how many of a chain are asked -/
def inP (p c : List Nat) : Nat := (p.map fun o => c.count o).sum
def left (C : LN) (p : List Nat) : LN := C.map fun c => c.drop (inP p c)
theorem flat_ge9 : ∀ {C : LN},(∀ c ∈ C,c ≠ []) → C.length ≤ C.flatten.length
 | [],_ => by simp
 | c :: C,h => by
  have := flat_ge9 (C := C) fun d hd => h d (List.mem_cons_of_mem _ hd)
  have c0 : 0 < c.length := List.length_pos_iff.2 (h c List.mem_cons_self)
  simp only [List.length_cons,List.flatten_cons,List.length_append]
  omega
end
section
attribute [-simp] DV.cells
attribute [local simp] sliceD cells_st cells_sl cells_i cells_y cells_b cells_s cells_w
theorem ni_flat (N : LN) : (N.map ni).flatten = ni N.flatten := by unfold ni; rw [List.map_flatten]
end
section
def rC (us : List T) : List Nat → Int
 | [] => 0
 | k :: r => cA us k + rC us r
def rP (us : List T) : List Nat → Int
 | [] => 1
 | k :: r => pA us k * rP us r
/-- what rounds cost,in parts of their own -/
def rD (us : List T) (fee : Int) : LN → Int
 | [] => 0
 | g :: r => (fee + rC us g) * 6 ^ (g.length + r.flatten.length) + rP us g * rD us fee r
theorem rC_app (us : List T) : ∀ p q : List Nat,rC us (p ++ q) = rC us p + rC us q
 | [],q => by simp [rC]
 | k :: p,q => by simp only [List.cons_append,rC]; rw [rC_app us p q]; omega
theorem rP_app (us : List T) : ∀ p q : List Nat,rP us (p ++ q) = rP us p * rP us q
 | [],q => by simp [rP]
 | k :: p,q => by simp only [List.cons_append,rP]; rw [rP_app us p q,Int.mul_assoc]
theorem rC_perm (us : List T) {p q : List Nat} (h : p.Perm q) : rC us p = rC us q := by
 induction h with
 | nil => rfl
 | cons a _ ih => simp only [rC]; rw [ih]
 | swap a b l => simp only [rC]; omega
 | trans _ _ i j => rw [i,j]
theorem rP_perm (us : List T) {p q : List Nat} (h : p.Perm q) : rP us p = rP us q := by
 induction h with
 | nil => rfl
 | cons a _ ih => simp only [rP]; rw [ih]
 | swap a b l => simp only [rP]; rw [← Int.mul_assoc,← Int.mul_assoc,Int.mul_comm (pA us a)]
 | trans _ _ i j => rw [i,j]
theorem rC_bd {us : List T} (h : us.all tOk = true) : ∀ {g : List Nat},(∀ k ∈ g,k < us.length) → (g.length : Int) ≤ rC us g ∧ rC us g ≤ 9 * g.length
 | [],_ => by simp [rC]
 | k :: r,hg => by
  have a := rC_bd h (g := r) fun x hx => hg x (List.mem_cons_of_mem _ hx)
  have b := cA_bd h (hg k List.mem_cons_self)
  simp only [rC,List.length_cons]
  omega
theorem rP_bd {us : List T} (h : us.all tOk = true) : ∀ {g : List Nat},(∀ k ∈ g,k < us.length) → 0 < rP us g ∧ rP us g ≤ 6 ^ g.length
 | [],_ => by simp [rP]
 | k :: r,hg => by
  have a := rP_bd h (g := r) fun x hx => hg x (List.mem_cons_of_mem _ hx)
  have b := pA_bd h (hg k List.mem_cons_self)
  simp only [rP,List.length_cons]
  refine ⟨Int.mul_pos (by omega) a.1,?_⟩
  rw [Int.pow_succ,Int.mul_comm (6 ^ r.length)]
  exact Int.mul_le_mul (by omega) a.2 (by omega) (by omega)
end
section
attribute [-simp] DV.cells
attribute [local simp] sliceD cells_st cells_sl cells_i cells_y cells_b cells_s cells_w
attribute [local simp] lend_eR al_eR
theorem tdiv6 {a : Int} (h : 0 ≤ a) : (a * 6).tdiv 6 = a := Int.mul_tdiv_cancel a (by omega)
/-- weights stay small -/
theorem wt_le {X p : Int} {n d q : Nat} (h0 : 0 ≤ X) (hx : X * 6 ^ (d + n + q) ≤ 7776) (p0 : 0 < p) (p1 : p ≤ 6 ^ d) : 0 ≤ X * p * 6 ^ (n + q) ∧ X * p * 6 ^ (n + q) ≤ 7776 := by
 have a := p6_pos (n + q)
 refine ⟨Int.mul_nonneg (Int.mul_nonneg h0 (by omega)) (by omega),Int.le_trans ?_ hx⟩
 have e : (6 : Int) ^ (d + n + q) = 6 ^ d * 6 ^ (n + q) := by rw [Nat.add_assoc,Int.pow_add]
 rw [e,← Int.mul_assoc]
 exact Int.mul_le_mul_of_nonneg_right (Int.mul_le_mul_of_nonneg_left p1 h0) (by omega)
end
section
/-- one more of the first ones -/
def stpF (so n a k : Nat) : Nat := if pc a < n ∧ so.testBit k = true then a ||| 2 ^ k else a
def fF (so n : Nat) (l : List Nat) : Nat := l.foldl (stpF so n) 0
/-- what is left,in ascending order -/
def Sl (m so : Nat) : List Nat := (List.range m).filter fun k => so.testBit k
theorem Sl_nd (m so : Nat) : (Sl m so).Nodup := List.nodup_range.filter _
theorem Sl_mem {m so k : Nat} : k ∈ Sl m so ↔ k < m ∧ so.testBit k = true := by unfold Sl; rw [List.mem_filter,List.mem_range]
/-- the next one -/
def nx (us : List T) (so k : Nat) : Nat := (cs us).ch (Sl us.length so) k
end
section
def cst (us : List T) (fee : Int) (v : Nat → Int) (so r : Nat) : Int := (fee + rC us (Sl us.length r)) * 6 ^ (Sl us.length so).length + rP us (Sl us.length r) * v (so - r)
/-- of the first so many rounds the one that costs least,the first one of equal ones -/
def rbst (us : List T) (fee : Int) (v : Nat → Int) (so : Nat) : Nat → Int × Nat
 | 0 => (-1,0)
 | n + 1 => if (n + 1) &&& so = n + 1 then (if (rbst us fee v so n).1 < 0 ∨ cst us fee v so (n + 1) < (rbst us fee v so n).1 then (cst us fee v so (n + 1),n + 1) else rbst us fee v so n) else rbst us fee v so n
def rbR (us : List T) (fee : Int) : Nat → Nat → Int × Nat
 | 0,_ => (0,0)
 | f + 1,so => if so = 0 then (0,0) else rbst us fee (fun s => (rbR us fee f s).1) so so
/-- the rounds themselves -/
def rwR (us : List T) (fee : Int) : Nat → Nat → LN
 | 0,_ => []
 | f + 1,so => if so = 0 then [] else Sl us.length (rbR us fee (f + 1) so).2 :: rwR us fee f (so - (rbR us fee (f + 1) so).2)
theorem rbst_spec {us : List T} {fee : Int} {v : Nat → Int} {so : Nat} (h0 : ∀ r,1 ≤ r → r &&& so = r → 0 ≤ cst us fee v so r) : ∀ n,((rbst us fee v so n).1 = -1 ∧ ∀ r,1 ≤ r → r ≤ n → r &&& so ≠ r) ∨
  (0 ≤ (rbst us fee v so n).1 ∧ (1 ≤ (rbst us fee v so n).2 ∧ (rbst us fee v so n).2 ≤ n ∧ (rbst us fee v so n).2 &&& so = (rbst us fee v so n).2) ∧ (rbst us fee v so n).1 = cst us fee v so (rbst us fee v so n).2 ∧ ∀ r,1 ≤ r → r ≤ n → r &&& so = r → (rbst us fee v so n).1 ≤ cst us fee v so r)
 | 0 => .inl ⟨rfl,fun r h1 h2 => by omega⟩
 | n + 1 => by
  have ih := rbst_spec h0 n
  simp only [rbst]
  by_cases q : (n + 1) &&& so = n + 1
  ·rw [if_pos q]
   have c0 := h0 (n + 1) (by omega) q
   by_cases d : (rbst us fee v so n).1 < 0 ∨ cst us fee v so (n + 1) < (rbst us fee v so n).1
   ·rw [if_pos d]
    refine .inr ⟨c0,⟨by simp,by simp,q⟩,rfl,fun r h1 h2 h3 => ?_⟩
    by_cases e : r = n + 1
    ·rw [e]; exact Int.le_refl _
    ·rcases ih with ⟨_,b⟩ | ⟨a,_,_,b⟩
     ·exact absurd h3 (b r h1 (by omega))
     ·have := b r h1 (by omega) h3
      simp only
      omega
   ·rw [if_neg d]
    rcases ih with ⟨a,_⟩ | ⟨a,b,c,e⟩
    ·exact absurd (Or.inl (by omega)) d
    ·refine .inr ⟨a,⟨b.1,by omega,b.2.2⟩,c,fun r h1 h2 h3 => ?_⟩
     by_cases x : r = n + 1
     ·rw [x]; omega
     ·exact e r h1 (by omega) h3
  ·rw [if_neg q]
   rcases ih with ⟨a,b⟩ | ⟨a,b,c,e⟩
   ·refine .inl ⟨a,fun r h1 h2 h3 => ?_⟩
    by_cases x : r = n + 1
    ·rw [x] at h3; exact q h3
    ·exact b r h1 (by omega) h3
   ·refine .inr ⟨a,⟨b.1,by omega,b.2.2⟩,c,fun r h1 h2 h3 => ?_⟩
    by_cases x : r = n + 1
    ·rw [x] at h3; exact absurd h3 q
    ·exact e r h1 (by omega) h3
theorem sub_fin : ∀ (m : _root_.Fin 6) (so r : _root_.Fin 32),so.val < 2 ^ m.val → r.val &&& so.val = r.val → (Sl m.val so.val).isPerm (Sl m.val r.val ++ Sl m.val (so.val - r.val)) = true ∧ (1 ≤ r.val → 1 ≤ (Sl m.val r.val).length) := by decide +kernel
theorem sub_perm {m so r : Nat} (hm : m ≤ 5) (hs : so < 2 ^ m) (hr : r &&& so = r) : (Sl m so).Perm (Sl m r ++ Sl m (so - r)) ∧ (1 ≤ r → 1 ≤ (Sl m r).length) ∧ r ≤ so ∧ so - r < 2 ^ m := by
 have p : 2 ^ m ≤ 2 ^ 5 := Nat.pow_le_pow_right (by omega) hm
 have le : r ≤ so := by rw [← hr]; exact Nat.and_le_right
 have := sub_fin ⟨m,by omega⟩ ⟨so,by omega⟩ ⟨r,by omega⟩ hs hr
 exact ⟨List.isPerm_iff.1 this.1,this.2,le,by omega⟩
theorem Sl_zero (m : Nat) : Sl m 0 = [] := by unfold Sl; simp
theorem Sl_ne {m so : Nat} (hm : m ≤ 5) (hs : so < 2 ^ m) (h0 : so ≠ 0) : 1 ≤ (Sl m so).length := (sub_perm hm hs (Nat.and_self so)).2.1 (by omega)
/-- numbers as a set -/
theorem set_of {m : Nat} : ∀ {g : List Nat},(∀ k ∈ g,k < m) → ∃ r,r < 2 ^ m ∧ ∀ k,r.testBit k = decide (k ∈ g)
 | [],_ => ⟨0,Nat.two_pow_pos m,fun k => by simp⟩
 | a :: g,h => by
  obtain ⟨r,r1,r2⟩ := set_of (g := g) fun k hk => h k (List.mem_cons_of_mem _ hk)
  have ha := h a List.mem_cons_self
  refine ⟨r ||| 2 ^ a,Nat.or_lt_two_pow r1 (Nat.pow_lt_pow_right (by omega) ha),fun k => ?_⟩
  rw [Nat.testBit_or,r2,Nat.testBit_two_pow]
  by_cases e : k = a
  ·subst e; simp
  ·have : a ≠ k := fun q => e q.symm
   simp [e,this]
theorem set_sub {m so : Nat} {g : List Nat} (nd : g.Nodup) (hg : ∀ k ∈ g,k ∈ Sl m so) : ∃ r,(Sl m r).Perm g ∧ r &&& so = r := by
 obtain ⟨r,r1,r2⟩ := set_of (m := m) (g := g) fun k hk => (Sl_mem.1 (hg k hk)).1
 refine ⟨r,(List.perm_ext_iff_of_nodup (Sl_nd _ _) nd).2 fun k => ?_,?_⟩
 ·rw [Sl_mem,r2,decide_eq_true_eq]
  exact ⟨fun q => q.2,fun q => ⟨(Sl_mem.1 (hg k q)).1,q⟩⟩
 ·apply Nat.eq_of_testBit_eq
  intro k
  rw [Nat.testBit_and,r2]
  by_cases q : k ∈ g
  ·rw [(Sl_mem.1 (hg k q)).2]; simp
  ·simp [q]
theorem rbR_nn {us : List T} (h : us.all tOk = true) (hm : us.length ≤ 5) {fee : Int} (hf : 0 ≤ fee) : ∀ (f so : Nat),so < 2 ^ us.length → 0 ≤ (rbR us fee f so).1 ∧ (f ≠ 0 → ∀ r,1 ≤ r → r &&& so = r → 0 ≤ cst us fee (fun s => (rbR us fee (f - 1) s).1) so r)
 | 0,so,_ => ⟨Int.le_refl _,fun q => absurd rfl q⟩
 | f + 1,so,hs => by
  have pos : ∀ r,1 ≤ r → r &&& so = r → 0 ≤ cst us fee (fun s => (rbR us fee f s).1) so r := fun r h1 h2 => by
   obtain ⟨_,_,_,lt⟩ := sub_perm hm hs h2
   have a := (rbR_nn h hm hf f (so - r) lt).1
   have b := rC_bd h (g := Sl us.length r) fun k hk => (Sl_mem.1 hk).1
   have c := rP_bd h (g := Sl us.length r) fun k hk => (Sl_mem.1 hk).1
   show 0 ≤ (fee + rC us (Sl us.length r)) * 6 ^ (Sl us.length so).length + rP us (Sl us.length r) * (rbR us fee f (so - r)).1
   have m1 := Int.mul_nonneg (show 0 ≤ fee + rC us (Sl us.length r) by omega) (Int.le_of_lt (p6_pos (Sl us.length so).length))
   have m2 := Int.mul_nonneg (Int.le_of_lt c.1) a
   omega
  refine ⟨?_,fun _ => pos⟩
  simp only [rbR]
  by_cases q : so = 0
  ·rw [if_pos q]; exact Int.le_refl _
  ·rw [if_neg q]
   rcases rbst_spec pos so with ⟨_,b⟩ | ⟨a,_⟩
   ·exact absurd (Nat.and_self so) (b so (by omega) (Nat.le_refl _))
   ·exact a
theorem rbR_le {us : List T} (h : us.all tOk = true) (hm : us.length ≤ 5) {fee : Int} (hf : 0 ≤ fee) : ∀ (f : Nat) (N : LN) (so : Nat),so < 2 ^ us.length → (∀ g ∈ N,g ≠ []) → N.flatten.Perm (Sl us.length so) → (Sl us.length so).length ≤ f → (rbR us fee f so).1 ≤ rD us fee N
 | 0,N,so,hs,ne,p,hl => by
  have e := p.length_eq
  have : N = [] := by
   cases N with
   | nil => rfl
   | cons g r =>
    have := List.length_pos_iff.2 (ne g List.mem_cons_self)
    simp only [List.flatten_cons,List.length_append] at e
    omega
  subst this
  exact Int.le_refl _
 | f + 1,N,so,hs,ne,p,hl => by
  by_cases q : so = 0
  ·have e := p.length_eq
   rw [q,Sl_zero] at e
   have : N = [] := by
    cases N with
    | nil => rfl
    | cons g r =>
     have := List.length_pos_iff.2 (ne g List.mem_cons_self)
     simp only [List.flatten_cons,List.length_append,List.length_nil] at e
     omega
   subst this
   simp only [rbR]
   rw [if_pos q]
   exact Int.le_refl _
  ·have l1 := Sl_ne hm hs q
   cases N with
   | nil => have e := p.length_eq; simp at e; omega
   | cons g r =>
    have nd : g.Nodup := by
     have : (g :: r).flatten.Nodup := p.nodup_iff.2 (Sl_nd _ _)
     rw [List.flatten_cons] at this
     exact (List.nodup_append.1 this).1
    obtain ⟨x,x1,x2⟩ := set_sub (m := us.length) (so := so) nd fun k hk => p.mem_iff.1 (by rw [List.flatten_cons]; exact List.mem_append_left _ hk)
    obtain ⟨s1,_,s3,s4⟩ := sub_perm hm hs x2
    have gl := List.length_pos_iff.2 (ne g List.mem_cons_self)
    have xl := x1.length_eq
    have xp : 1 ≤ x := by
     rcases Nat.eq_zero_or_pos x with e | e
     ·rw [e,Sl_zero] at xl; simp at xl; omega
     ·exact e
    have pr : r.flatten.Perm (Sl us.length (so - x)) := by
     have : (g ++ r.flatten).Perm (g ++ Sl us.length (so - x)) := by
      rw [← List.flatten_cons]
      exact p.trans (s1.trans (x1.append_right _))
     exact (List.perm_append_left_iff _).1 this
    have sl := s1.length_eq
    rw [List.length_append] at sl
    have ih := rbR_le h hm hf f r (so - x) s4 (fun c hc => ne c (List.mem_cons_of_mem _ hc)) pr (by omega)
    have pos : ∀ r,1 ≤ r → r &&& so = r → 0 ≤ cst us fee (fun s => (rbR us fee f s).1) so r := (rbR_nn h hm hf (f + 1) so hs).2 (by omega)
    simp only [rbR]
    rw [if_neg q]
    rcases rbst_spec pos so with ⟨_,b⟩ | ⟨_,_,_,b⟩
    ·exact absurd x2 (b x xp s3)
    ·have := b x xp s3 x2
     refine Int.le_trans this ?_
     unfold cst
     simp only [rD]
     rw [rC_perm us x1,rP_perm us x1]
     have e : (Sl us.length so).length = g.length + r.flatten.length := by rw [← p.length_eq,List.flatten_cons,List.length_append]
     rw [e]
     have c := rP_bd h (g := g) fun k hk => (Sl_mem.1 (x1.mem_iff.2 hk)).1
     have m := Int.mul_le_mul_of_nonneg_left ih (Int.le_of_lt c.1)
     omega
theorem rbR_rows {us : List T} (h : us.all tOk = true) (hm : us.length ≤ 5) {fee : Int} (hf : 0 ≤ fee) : ∀ (f so : Nat),so < 2 ^ us.length → (Sl us.length so).length ≤ f → (∀ g ∈ rwR us fee f so,g ≠ []) ∧ (rwR us fee f so).flatten.Perm (Sl us.length so) ∧ rD us fee (rwR us fee f so) = (rbR us fee f so).1
 | 0,so,hs,hl => by
  have e : Sl us.length so = [] := List.length_eq_zero_iff.1 (by omega)
  rw [e]
  exact ⟨fun g hg => (by cases hg),List.Perm.refl _,rfl⟩
 | f + 1,so,hs,hl => by
  by_cases q : so = 0
  ·subst q
   rw [Sl_zero]
   simp [rwR,rbR,rD]
  ·have pos : ∀ r,1 ≤ r → r &&& so = r → 0 ≤ cst us fee (fun s => (rbR us fee f s).1) so r := (rbR_nn h hm hf (f + 1) so hs).2 (by omega)
   have B := rbst_spec pos so
   have e : rbR us fee (f + 1) so = rbst us fee (fun s => (rbR us fee f s).1) so so := by simp only [rbR]; rw [if_neg q]
   rw [← e] at B
   rcases B with ⟨_,b⟩ | ⟨_,⟨b1,b2,b3⟩,c,_⟩
   ·exact absurd (Nat.and_self so) (b so (by omega) (Nat.le_refl _))
   ·obtain ⟨s1,s2,s3,s4⟩ := sub_perm hm hs b3
    have sl := s1.length_eq
    rw [List.length_append] at sl
    have s2' := s2 b1
    obtain ⟨i1,i2,i3⟩ := rbR_rows h hm hf f (so - (rbR us fee (f + 1) so).2) s4 (by omega)
    have er : rwR us fee (f + 1) so = Sl us.length (rbR us fee (f + 1) so).2 :: rwR us fee f (so - (rbR us fee (f + 1) so).2) := by simp only [rwR]; rw [if_neg q]
    rw [er]
    refine ⟨fun g hg => ?_,?_,?_⟩
    ·rcases List.mem_cons.1 hg with e | e
     ·rw [e]; exact List.length_pos_iff.1 s2'
     ·exact i1 g e
    ·rw [List.flatten_cons]
     exact (i2.append_left _).trans s1.symm
    ·rw [c]
     simp only [rD]
     unfold cst
     rw [i3,i2.length_eq,← sl]
def brV (us : List T) (fee : Int) : Int := (rbR us fee us.length (2 ^ us.length - 1)).1
def brR (us : List T) (fee : Int) : LN := rwR us fee us.length (2 ^ us.length - 1)
theorem Sl_all {m : Nat} (hm : m ≤ 5) : Sl m (2 ^ m - 1) = List.range m := by
 have key : ∀ m : _root_.Fin 6,Sl m.val (2 ^ m.val - 1) = List.range m.val := by decide +kernel
 exact key ⟨m,by omega⟩
theorem br_all {us : List T} (h : tsOk us = true) {fee : Int} (hf : 0 ≤ fee) : Gok us.length (brR us fee) ∧ rD us fee (brR us fee) = brV us fee ∧ ∀ N,Gok us.length N → brV us fee ≤ rD us fee N := by
 have h' := tsOk_iff.1 h
 have hs : 2 ^ us.length - 1 < 2 ^ us.length := by have := Nat.two_pow_pos us.length; omega
 have hl : (Sl us.length (2 ^ us.length - 1)).length ≤ us.length := by rw [Sl_all (by omega)]; simp
 obtain ⟨i1,i2,i3⟩ := rbR_rows h'.2 (by omega) hf us.length _ hs hl
 rw [Sl_all (by omega)] at i2
 refine ⟨⟨fun g hg k hk => ?_,i2.nodup_iff.2 List.nodup_range,fun k hk => i2.mem_iff.2 (List.mem_range.2 hk),i1⟩,i3,fun N G => ?_⟩
 ·exact List.mem_range.1 (i2.mem_iff.1 (List.mem_flatten.2 ⟨g,hg,hk⟩))
 ·refine rbR_le h'.2 (by omega) hf us.length N _ hs G.ne ?_ hl
  rw [Sl_all (by omega)]
  exact (List.perm_ext_iff_of_nodup G.nd List.nodup_range).2 fun k => by
   rw [List.mem_range]
   refine ⟨fun hk => ?_,G.all k⟩
   obtain ⟨c,c1,c2⟩ := List.mem_flatten.1 hk
   exact G.lt c c1 k c2
end
section
attribute [-simp] DV.cells sliceD
attribute [local simp] cells_st cells_sl cells_i cells_y cells_b cells_s cells_w
/-- how many bits are ones,one by one -/
def hb : Nat → Nat → Nat
 | 0,_ => 0
 | f + 1,n => n % 2 + hb f (n / 2)
def ctOk (us : List T) (k : Int) : Bool := tsOk us && decide (1 ≤ k ∧ k ≤ us.length)
end
section
attribute [-simp] DV.cells
attribute [local simp] sliceD cells_st cells_sl cells_i cells_y cells_b cells_s cells_w
theorem and_nat {a b : Nat} (ha : a < 1000) (hb : b < 1000) : andI (a : Int) (b : Int) = ((a &&& b : Nat) : Int) := by
 unfold andI
 have e : (BitVec.ofInt 64 (a : Int) &&& BitVec.ofInt 64 (b : Int)).toNat = a &&& b := by
  rw [BitVec.toNat_and,BitVec.toNat_ofInt,BitVec.toNat_ofInt]
  have x : ((a : Int) % ((2 ^ 64 : Nat) : Int)).toNat = a := by omega
  have y : ((b : Int) % ((2 ^ 64 : Nat) : Int)).toNat = b := by omega
  rw [x,y]
 rw [e]
 have : a &&& b ≤ a := Nat.and_le_left
 exact wr_id (by omega) (by omega)
theorem Sl_succ (j r : Nat) : Sl (j + 1) r = Sl j r ++ if r.testBit j then [j] else [] := by
 unfold Sl
 rw [List.range_succ,List.filter_append]
 congr 1
 cases h : r.testBit j <;> simp [h]
theorem Sl_mono {m r : Nat} : ∀ {j : Nat},j ≤ m → (Sl j r).length ≤ (Sl m r).length := by
 intro j hj
 obtain ⟨d,rfl⟩ := Nat.exists_eq_add_of_le hj
 induction d with
 | zero => exact Nat.le_refl _
 | succ d ih => rw [← Nat.add_assoc,Sl_succ,List.length_append]; have := ih (by omega); omega
/-- the cost of the best rounds is that of one round of all at most -/
theorem rbR_up {us : List T} (h : us.all tOk = true) (hm : us.length ≤ 5) {fee : Int} (hf : 0 ≤ fee ∧ fee ≤ 22) (f so : Nat) (hs : so < 2 ^ us.length) (hl : (Sl us.length so).length ≤ f) : (rbR us fee f so).1 ≤ 70 * 6 ^ (Sl us.length so).length := by
 have p := p6_pos (Sl us.length so).length
 cases f with
 | zero => simp only [rbR]; omega
 | succ f =>
  by_cases q : so = 0
  ·simp only [rbR]; rw [if_pos q]; simp only; omega
  ·have := rbR_le h hm hf.1 (f + 1) [Sl us.length so] so hs (fun g hg => by
    rw [List.mem_singleton.1 hg]
    exact List.length_pos_iff.1 (Sl_ne hm hs q)) (by simp) hl
   refine Int.le_trans this ?_
   simp only [rD]
   have a := rC_bd h (g := Sl us.length so) fun k hk => (Sl_mem.1 hk).1
   have l5 : (Sl us.length so).length ≤ 5 := by
    have := List.length_filter_le so.testBit (List.range us.length)
    rw [List.length_range] at this
    exact Nat.le_trans this hm
   rw [Int.mul_zero,Int.add_zero]
   simp only [List.flatten_nil,List.length_nil,Nat.add_zero]
   exact Int.mul_le_mul_of_nonneg_right (by omega) (by omega)
def stL0 (us : List T) (so : Nat) (fee w best : Int) (first round : Nat) : LS :=
 ⟨[(0,.sl 0 (us.map e2)),(1,.i so),(2,.i fee),(3,.i w),(10,.i best),(11,.i first),(12,.i round)],[]⟩
def stL1 (us : List T) (so : Nat) (fee w best : Int) (first round : Nat) (cost next : Int) (k : Nat) : LS :=
 ⟨[(0,.sl 0 (us.map e2)),(1,.i so),(2,.i fee),(3,.i w),(10,.i best),(11,.i first),(12,.i round),(13,.i cost),(14,.i next),(15,.i k)],[]⟩
set_option maxHeartbeats 4000000 in
theorem lb_inner {us : List T} (h : us.all tOk = true) (hm : us.length ≤ 5) {so : Nat} {fee w best : Int} {first round : Nat} (hf : 0 ≤ fee ∧ fee ≤ 22) {X : Int} {q : Nat} (h0 : 0 ≤ X) (hx : X * 6 ^ ((Sl us.length round).length + q) ≤ 7776) :
  ex lf F_spec_l10Best_W1 (stL1 us so fee w best first round fee (X * 6 ^ ((Sl us.length round).length + q)) 0) = some (.exit 2,stL1 us so fee w best first round (fee + rC us (Sl us.length round)) (X * rP us (Sl us.length round) * 6 ^ q) us.length) := by
 have z : Sl 0 round = [] := rfl
 have e0 : stL1 us so fee w best first round fee (X * 6 ^ ((Sl us.length round).length + q)) 0 = stL1 us so fee w best first round (fee + rC us (Sl 0 round)) (X * rP us (Sl 0 round) * 6 ^ ((Sl us.length round).length - (Sl 0 round).length + q)) 0 := by
  rw [z]; simp [rC,rP]
 rw [e0]
 refine loop_count (lf := lf) (L := F_spec_l10Best_L1) us.length (fun j => stL1 us so fee w best first round (fee + rC us (Sl j round)) (X * rP us (Sl j round) * 6 ^ ((Sl us.length round).length - (Sl j round).length + q)) j) (fun j hj => ?_) ?_ (by simp)
 ·have jm : ∀ k ∈ Sl j round,k < us.length := fun k hk => by have := (Sl_mem.1 hk).1; omega
  have jm2 : ∀ k ∈ Sl (j + 1) round,k < us.length := fun k hk => by have := (Sl_mem.1 hk).1; omega
  have rc := rC_bd h jm
  have rp := rP_bd h jm
  have rp2 := rP_bd h jm2
  have lj := Sl_mono (r := round) (m := us.length) (j := j) (by omega)
  have lj2 := Sl_mono (r := round) (m := us.length) (j := j + 1) (by omega)
  have b := bit_bI (a := round) (s := j) (by omega)
  have hj' : (j : Int) < us.length := by omega
  have nj : ¬ (j : Int) < 0 := by omega
  have w7 := wr_succ (k := j) (by omega)
  have at2 := atT hj
  have cb := cA_bd h hj
  have pb := pA_bd h hj
  have l5 : (Sl j round).length ≤ 5 := by
   have := List.length_filter_le round.testBit (List.range j)
   rw [List.length_range] at this
   exact Nat.le_trans this (by omega)
  show ex lf F_spec_l10Best_L1 (stL1 us so fee w best first round (fee + rC us (Sl j round)) (X * rP us (Sl j round) * 6 ^ ((Sl us.length round).length - (Sl j round).length + q)) j) = some (.normal,stL1 us so fee w best first round (fee + rC us (Sl (j + 1) round)) (X * rP us (Sl (j + 1) round) * 6 ^ ((Sl us.length round).length - (Sl (j + 1) round).length + q)) (j + 1))
  rw [Sl_succ] at rp2 lj2 ⊢
  cases hb : round.testBit j with
  | false =>
   rw [hb] at b
   simp only [Bool.false_eq_true,if_false,List.append_nil]
   unfold stL1
   generalize X * rP us (Sl j round) * 6 ^ ((Sl us.length round).length - (Sl j round).length + q) = V at *
   generalize fee + rC us (Sl j round) = U at *
   simp [F_spec_l10Best_L1,hj,hj',nj,b,bI,w7,-Int.natCast_add]
  | true =>
   rw [hb] at b rp2 lj2
   simp only [if_true] at rp2 lj2 ⊢
   rw [List.length_append,List.length_singleton] at lj2 rp2
   have ec : rC us (Sl j round ++ [j]) = rC us (Sl j round) + cA us j := by rw [rC_app]; simp [rC]
   have ep : rP us (Sl j round ++ [j]) = rP us (Sl j round) * pA us j := by rw [rP_app]; simp [rP]
   obtain ⟨d,hd⟩ : ∃ d,(Sl us.length round).length = (Sl j round).length + 1 + d := ⟨(Sl us.length round).length - (Sl j round).length - 1,by omega⟩
   rw [ep] at rp2
   have w1 := wt_le (n := d) (d := (Sl j round).length + 1) (q := q) h0 (by rw [← hd]; exact hx) rp2.1 rp2.2
   have w2 := wt_le (n := d) (d := (Sl j round).length) (q := q) h0 (Int.le_trans (Int.mul_le_mul_of_nonneg_left (show (6 : Int) ^ ((Sl j round).length + d + q) ≤ 6 ^ ((Sl us.length round).length + q) from by
    rw [hd,show (Sl j round).length + 1 + d + q = (Sl j round).length + d + q + 1 by omega,Int.pow_succ]
    have := p6_pos ((Sl j round).length + d + q)
    omega) h0) hx) rp.1 rp.2
   rw [ec,ep,List.length_append,List.length_singleton,hd,show (Sl j round).length + 1 + d - (Sl j round).length + q = d + q + 1 by omega,show (Sl j round).length + 1 + d - ((Sl j round).length + 1) + q = d + q by omega]
   have e6 : X * rP us (Sl j round) * 6 ^ (d + q + 1) = X * rP us (Sl j round) * 6 ^ (d + q) * 6 := by rw [Int.pow_succ,← Int.mul_assoc]
   have e7 : X * (rP us (Sl j round) * pA us j) * 6 ^ (d + q) = X * rP us (Sl j round) * 6 ^ (d + q) * pA us j := by
    rw [← Int.mul_assoc,Int.mul_assoc,Int.mul_comm (pA us j),← Int.mul_assoc]
   rw [e7] at w1
   have td := tdiv6 w2.1
   rw [e6,e7,← Int.add_assoc]
   unfold stL1
   generalize X * rP us (Sl j round) * 6 ^ (d + q) = V at *
   have w3 : wr (fee + rC us (Sl j round) + cA us j) = fee + rC us (Sl j round) + cA us j := wr_id (by omega) (by omega)
   have w4 : wr (V * pA us j) = V * pA us j := wr_id (by omega) (by omega)
   have w5 : wr V = V := wr_id (by omega) (by omega)
   generalize fee + rC us (Sl j round) = U at *
   generalize cA us j = c at *
   generalize pA us j = p at *
   simp [F_spec_l10Best_L1,hj,hj',nj,b,bI,at2,td,w3,w4,w5,w7,-Int.natCast_add]
 ·show ex lf F_spec_l10Best_L1 (stL1 us so fee w best first round (fee + rC us (Sl us.length round)) (X * rP us (Sl us.length round) * 6 ^ ((Sl us.length round).length - (Sl us.length round).length + q)) us.length) = _
  rw [Nat.sub_self,Nat.zero_add]
  unfold stL1
  generalize X * rP us (Sl us.length round) * 6 ^ q = V at *
  generalize fee + rC us (Sl us.length round) = U at *
  simp [F_spec_l10Best_L1]
/-- the least so far,times a weight -/
def scl (X : Int) (st : Int × Nat) : Int := if st.1 < 0 then -1 else X * st.1
def LbOk (us : List T) (fee : Int) (f : Nat) : Prop := ∀ (so : Nat) (X : Int),so < 2 ^ us.length → (Sl us.length so).length ≤ f → 0 < X → X * 6 ^ (Sl us.length so).length ≤ 7776 →
  call lf n_spec_l10Best [.sl 0 (us.map e2),.i so,.i fee,.i (X * 6 ^ (Sl us.length so).length)] = some (.tup [.i (X * (rbR us fee f so).1),.i (rbR us fee f so).2],[])
set_option maxHeartbeats 4000000 in
theorem lb_step {us : List T} (h : us.all tOk = true) (hm : us.length ≤ 5) {fee : Int} (hf : 0 ≤ fee ∧ fee ≤ 22) {f : Nat} (ih : LbOk us fee f) {so : Nat} {X : Int} (hs : so < 2 ^ us.length) (hl : (Sl us.length so).length ≤ f + 1) (h0 : 0 < X) (hx : X * 6 ^ (Sl us.length so).length ≤ 7776) {n : Nat} (hn : n < so) :
  ex lf F_spec_l10Best_L0 (stL0 us so fee (X * 6 ^ (Sl us.length so).length) (scl X (rbst us fee (fun s => (rbR us fee f s).1) so n)) (rbst us fee (fun s => (rbR us fee f s).1) so n).2 (n + 1)) =
   some (.normal,stL0 us so fee (X * 6 ^ (Sl us.length so).length) (scl X (rbst us fee (fun s => (rbR us fee f s).1) so (n + 1))) (rbst us fee (fun s => (rbR us fee f s).1) so (n + 1)).2 (n + 2)) := by
 have p32 : 2 ^ us.length ≤ 2 ^ 5 := Nat.pow_le_pow_right (by omega) hm
 have pos : ∀ r,1 ≤ r → r &&& so = r → 0 ≤ cst us fee (fun s => (rbR us fee f s).1) so r := (rbR_nn h hm hf.1 (f + 1) so hs).2 (by omega)
 have an := and_nat (a := n + 1) (b := so) (by omega) (by omega)
 have le : ((n + 1 : Nat) : Int) ≤ so := by omega
 have w7 := wr_succ (k := n + 1) (by omega)
 have wb : 0 ≤ X * 6 ^ (Sl us.length so).length := Int.mul_nonneg (by omega) (Int.le_of_lt (p6_pos _))
 have st := rbst_spec pos n
 simp only [rbst]
 generalize hst : rbst us fee (fun s => (rbR us fee f s).1) so n = s at *
 by_cases q : (n + 1) &&& so = n + 1
 ·rw [if_pos q]
  rw [q] at an
  obtain ⟨s1,s2,s3,s4⟩ := sub_perm hm hs q
  have sl := s1.length_eq
  rw [List.length_append] at sl
  have sp := s2 (by omega)
  have rc := rC_bd h (g := Sl us.length (n + 1)) fun k hk => (Sl_mem.1 hk).1
  have rp := rP_bd h (g := Sl us.length (n + 1)) fun k hk => (Sl_mem.1 hk).1
  have l5 : (Sl us.length (n + 1)).length ≤ 5 := by
   have := List.length_filter_le (n + 1).testBit (List.range us.length)
   rw [List.length_range] at this
   exact Nat.le_trans this hm
  have hx' : X * 6 ^ ((Sl us.length (n + 1)).length + (Sl us.length (so - (n + 1))).length) ≤ 7776 := by rw [← sl]; exact hx
  have I := lb_inner (so := so) (fee := fee) (w := X * 6 ^ (Sl us.length so).length) (best := scl X s) (first := s.2) (round := n + 1) (X := X) h hm hf (by omega) hx'
  have wt := wt_le (X := X) (n := 0) (d := (Sl us.length (n + 1)).length) (q := (Sl us.length (so - (n + 1))).length) (by omega) (by rw [Nat.add_zero]; exact hx') rp.1 rp.2
  rw [Nat.zero_add] at wt
  have xp : 0 < X * rP us (Sl us.length (n + 1)) := Int.mul_pos h0 rp.1
  have R := ih (so - (n + 1)) (X * rP us (Sl us.length (n + 1))) s4 (by omega) xp wt.2
  have rn := (rbR_nn h hm hf.1 f (so - (n + 1)) s4).1
  have ru := rbR_up h hm hf f (so - (n + 1)) s4 (by omega)
  have vn : 0 ≤ X * rP us (Sl us.length (n + 1)) * (rbR us fee f (so - (n + 1))).1 := Int.mul_nonneg (by omega) rn
  have vu : X * rP us (Sl us.length (n + 1)) * (rbR us fee f (so - (n + 1))).1 ≤ 70 * 7776 := by
   refine Int.le_trans (Int.mul_le_mul_of_nonneg_left ru (by omega)) ?_
   rw [← Int.mul_assoc,Int.mul_comm _ 70,Int.mul_assoc]
   omega
  have cu : 0 ≤ (fee + rC us (Sl us.length (n + 1))) * (X * 6 ^ (Sl us.length so).length) ∧ (fee + rC us (Sl us.length (n + 1))) * (X * 6 ^ (Sl us.length so).length) ≤ 70 * 7776 := ⟨Int.mul_nonneg (by omega) wb,Int.mul_le_mul (by omega) hx wb (by omega)⟩
  have ce : (fee + rC us (Sl us.length (n + 1))) * (X * 6 ^ (Sl us.length so).length) + X * rP us (Sl us.length (n + 1)) * (rbR us fee f (so - (n + 1))).1 = X * cst us fee (fun s => (rbR us fee f s).1) so (n + 1) := by
   unfold cst
   simp only
   generalize (6 : Int) ^ (Sl us.length so).length = P
   grind
  have cn := pos (n + 1) (by omega) q
  rw [← sl] at I
  have w1 : wr (((so : Nat) : Int) - ((n + 1 : Nat) : Int)) = ((so - (n + 1) : Nat) : Int) := by rw [wr_id (by omega) (by omega)]; omega
  unfold stL0
  unfold stL1 at I
  simp only [Int.natCast_zero] at I
  generalize cst us fee (fun s => (rbR us fee f s).1) so (n + 1) = C at *
  generalize hv : X * rP us (Sl us.length (n + 1)) * (rbR us fee f (so - (n + 1))).1 = v at *
  generalize (rbR us fee f (so - (n + 1))).2 = z2 at *
  generalize X * rP us (Sl us.length (n + 1)) * 6 ^ (Sl us.length (so - (n + 1))).length = V at *
  generalize fee + rC us (Sl us.length (n + 1)) = U at *
  generalize X * 6 ^ (Sl us.length so).length = W at *
  have w2 : wr (U * W) = U * W := wr_id (by omega) (by omega)
  have w3 : wr (U * W + v) = X * C := by rw [wr_id (by omega) (by omega),ce]
  have dec : (scl X s < 0 ∨ X * C < scl X s) ↔ (s.1 < 0 ∨ C < s.1) := by
   unfold scl
   by_cases d : s.1 < 0
   ·rw [if_pos d]; simp [d]
   ·rw [if_neg d]
    have : 0 ≤ X * s.1 := Int.mul_nonneg (by omega) (by omega)
    constructor
    ·rintro (x | x)
     ·omega
     ·exact .inr (Int.lt_of_mul_lt_mul_left x (by omega))
    ·rintro (x | x)
     ·exact absurd x d
     ·exact .inr (Int.mul_lt_mul_of_pos_left x h0)
  generalize hN : n + 1 = N at *
  have hN2 : n + 2 = N + 1 := by omega
  rw [hN2]
  have nn : ¬ C < 0 := by omega
  generalize hb : scl X s = b at *
  by_cases d : s.1 < 0 ∨ C < s.1
  ·rw [if_pos d]
   have e : scl X (C,N) = X * C := by unfold scl; rw [if_neg nn]
   rw [e]
   rcases dec.2 d with d1 | d1
   ·simp [F_spec_l10Best_L0,le,an,I,R,w1,w2,w3,w7,d1,-Int.natCast_add]
   ·by_cases d2 : b < 0
    ·simp [F_spec_l10Best_L0,le,an,I,R,w1,w2,w3,w7,d2,-Int.natCast_add]
    ·simp [F_spec_l10Best_L0,le,an,I,R,w1,w2,w3,w7,d1,d2,-Int.natCast_add]
  ·rw [if_neg d,hb]
   have d1 : ¬ (b < 0 ∨ X * C < b) := fun x => d (dec.1 x)
   have d2 : ¬ b < 0 := fun x => d1 (.inl x)
   have d3 : ¬ X * C < b := fun x => d1 (.inr x)
   simp [F_spec_l10Best_L0,le,an,I,R,w1,w2,w3,w7,d2,d3,-Int.natCast_add]
 ·rw [if_neg q]
  have q' : ((((n + 1) &&& so : Nat) : Int) != ((n + 1 : Nat) : Int)) = true := by simp; omega
  unfold stL0
  generalize scl X s = b at *
  generalize X * 6 ^ (Sl us.length so).length = W at *
  generalize hA : (n + 1) &&& so = A at *
  generalize hN : n + 1 = N at *
  have hN2 : n + 2 = N + 1 := by omega
  rw [hN2]
  have q2 : ¬ (A : Int) = N := by omega
  simp [F_spec_l10Best_L0,le,an,q',q2,w7,-Int.natCast_add]
set_option maxHeartbeats 1000000 in
theorem c_spec_l10Best {us : List T} (h : us.all tOk = true) (hm : us.length ≤ 5) {fee : Int} (hf : 0 ≤ fee ∧ fee ≤ 22) : ∀ f,LbOk us fee f
 | 0 => fun so X hs hl h0 hx => by
  rw [call_k lf n_spec_l10Best _ (F := F_spec_l10Best) rfl rfl]
  have e : so = 0 := by
   rcases Nat.eq_zero_or_pos so with q | q
   ·exact q
   ·have := Sl_ne hm hs (by omega); omega
  subst e
  simp [F_spec_l10Best,rbR]
 | f + 1 => fun so X hs hl h0 hx => by
  rw [call_k lf n_spec_l10Best _ (F := F_spec_l10Best) rfl rfl]
  by_cases q : so = 0
  ·subst q
   simp [F_spec_l10Best,rbR]
  ·have ih := c_spec_l10Best h hm hf f
   have L : ex lf F_spec_l10Best_W0 (stL0 us so fee (X * 6 ^ (Sl us.length so).length) (scl X (rbst us fee (fun s => (rbR us fee f s).1) so 0)) (rbst us fee (fun s => (rbR us fee f s).1) so 0).2 (0 + 1)) = some (.exit 0,stL0 us so fee (X * 6 ^ (Sl us.length so).length) (scl X (rbst us fee (fun s => (rbR us fee f s).1) so so)) (rbst us fee (fun s => (rbR us fee f s).1) so so).2 (so + 1)) := by
    refine loop_count (lf := lf) (L := F_spec_l10Best_L0) so (fun n => stL0 us so fee (X * 6 ^ (Sl us.length so).length) (scl X (rbst us fee (fun s => (rbR us fee f s).1) so n)) (rbst us fee (fun s => (rbR us fee f s).1) so n).2 (n + 1)) (fun n hn => lb_step h hm hf ih hs hl h0 hx hn) ?_ (by simp)
    have nle : ¬ ((so + 1 : Nat) : Int) ≤ so := by omega
    show ex lf F_spec_l10Best_L0 (stL0 us so fee (X * 6 ^ (Sl us.length so).length) (scl X (rbst us fee (fun s => (rbR us fee f s).1) so so)) (rbst us fee (fun s => (rbR us fee f s).1) so so).2 (so + 1)) = _
    unfold stL0
    generalize scl X _ = b at *
    generalize (rbst us fee (fun s => (rbR us fee f s).1) so so).2 = b2 at *
    generalize X * 6 ^ (Sl us.length so).length = W at *
    generalize hN : so + 1 = N at *
    simp [F_spec_l10Best_L0,nle]
   have e : rbR us fee (f + 1) so = rbst us fee (fun s => (rbR us fee f s).1) so so := by simp only [rbR]; rw [if_neg q]
   have nn := (rbR_nn h hm hf.1 (f + 1) so hs).1
   rw [← e] at L
   have es : scl X (rbR us fee (f + 1) so) = X * (rbR us fee (f + 1) so).1 := by unfold scl; rw [if_neg (by omega)]
   rw [es] at L
   unfold stL0 at L
   have z1 : scl X (rbst us fee (fun s => (rbR us fee f s).1) so 0) = -1 := rfl
   have z2 : (rbst us fee (fun s => (rbR us fee f s).1) so 0).2 = 0 := rfl
   rw [z1,z2] at L
   simp only [Nat.zero_add,Int.natCast_zero,Int.natCast_one] at L
   have q' : ((so : Int) == 0) = false := beq_false_of_ne (by omega)
   generalize X * (rbR us fee (f + 1) so).1 = v at *
   generalize (rbR us fee (f + 1) so).2 = z at *
   generalize X * 6 ^ (Sl us.length so).length = W at *
   generalize hN : so + 1 = N at *
   simp [F_spec_l10Best,q,q',L]
end
section
attribute [-simp] DV.cells
attribute [local simp] sliceD cells_st cells_sl cells_i cells_y cells_b cells_s cells_w
attribute [local simp] lend_eR al_eR lend_eN adopt_eN new_eN
theorem cells_cel (k n : Nat) : (DV.cel k n).cells = [.cel k n] := rfl
theorem noc_i (xs : List Int) : noCelL (xs.map DV.i) = true := by rw [noCelL_all,List.all_map,List.all_eq_true]; intro x _; rfl
theorem noc_y (xs : List Nat) : noCelL (xs.map DV.y) = true := by rw [noCelL_all,List.all_map,List.all_eq_true]; intro x _; rfl
theorem noc_eN (L : List (List Int)) : noCelL (L.map eN) = true := by
 rw [noCelL_all,List.all_map,List.all_eq_true]
 intro x _
 show noCelL (x.map DV.i) = true
 exact noc_i x
end
section
attribute [-simp] DV.cells
attribute [local simp] sliceD cells_st cells_sl cells_i cells_y cells_b cells_s cells_w
attribute [local simp] lend_eR al_eR lend_eN adopt_eN new_eN
def stB0 (us : List T) (fee : Int) (out : LN) (so : Nat) (w best : Int) : LS :=
 ⟨[(0,.sl 0 (us.map e2)),(1,.i fee),(6,.own 12296 out.length 0 out.length),(7,.i so),(8,.i w),(9,.i best)],[(12296,(out.map ni).map eN)]⟩
def stB1 (us : List T) (fee : Int) (out : LN) (so : Nat) (w best : Int) (round : Nat) (row : List Nat) (k : Nat) : LS :=
 ⟨[(0,.sl 0 (us.map e2)),(1,.i fee),(6,.own 12296 out.length 0 out.length),(7,.i so),(8,.i w),(9,.i best),(12,.i round),(13,.own 25608 row.length 0 row.length),(14,.i k)],[(12296,(out.map ni).map eN),(25608,(ni row).map .i)]⟩
set_option maxHeartbeats 4000000 in
theorem br_inner {us : List T} (h : us.all tOk = true) (hm : us.length ≤ 5) {so : Nat} {fee best : Int} {out : LN} {round : Nat} {X : Int} {q : Nat} (h0 : 0 ≤ X) (hx : X * 6 ^ ((Sl us.length round).length + q) ≤ 7776) :
  ex lf F_spec_BestRounds_W1 (stB1 us fee out so (X * 6 ^ ((Sl us.length round).length + q)) best round [] 0) = some (.exit 2,stB1 us fee out so (X * rP us (Sl us.length round) * 6 ^ q) best round (Sl us.length round) us.length) := by
 have z : Sl 0 round = [] := rfl
 have e0 : stB1 us fee out so (X * 6 ^ ((Sl us.length round).length + q)) best round [] 0 = stB1 us fee out so (X * rP us (Sl 0 round) * 6 ^ ((Sl us.length round).length - (Sl 0 round).length + q)) best round (Sl 0 round) 0 := by
  rw [z]; simp [rP]
 rw [e0]
 refine loop_count (lf := lf) (L := F_spec_BestRounds_L1) us.length (fun j => stB1 us fee out so (X * rP us (Sl j round) * 6 ^ ((Sl us.length round).length - (Sl j round).length + q)) best round (Sl j round) j) (fun j hj => ?_) ?_ (by simp)
 ·have jm : ∀ k ∈ Sl j round,k < us.length := fun k hk => by have := (Sl_mem.1 hk).1; omega
  have jm2 : ∀ k ∈ Sl (j + 1) round,k < us.length := fun k hk => by have := (Sl_mem.1 hk).1; omega
  have rp := rP_bd h jm
  have rp2 := rP_bd h jm2
  have lj := Sl_mono (r := round) (m := us.length) (j := j) (by omega)
  have lj2 := Sl_mono (r := round) (m := us.length) (j := j + 1) (by omega)
  have b := bit_bI (a := round) (s := j) (by omega)
  have hj' : (j : Int) < us.length := by omega
  have nj : ¬ (j : Int) < 0 := by omega
  have w7 := wr_succ (k := j) (by omega)
  have at2 := atT hj
  have cb := cA_bd h hj
  have pb := pA_bd h hj
  have l5 : (Sl j round).length ≤ 5 := by
   have := List.length_filter_le round.testBit (List.range j)
   rw [List.length_range] at this
   exact Nat.le_trans this (by omega)
  show ex lf F_spec_BestRounds_L1 (stB1 us fee out so (X * rP us (Sl j round) * 6 ^ ((Sl us.length round).length - (Sl j round).length + q)) best round (Sl j round) j) = some (.normal,stB1 us fee out so (X * rP us (Sl (j + 1) round) * 6 ^ ((Sl us.length round).length - (Sl (j + 1) round).length + q)) best round (Sl (j + 1) round) (j + 1))
  rw [Sl_succ] at rp2 lj2 ⊢
  cases hb : round.testBit j with
  | false =>
   rw [hb] at b
   simp only [Bool.false_eq_true,if_false,List.append_nil]
   unfold stB1
   generalize X * rP us (Sl j round) * 6 ^ ((Sl us.length round).length - (Sl j round).length + q) = V at *
   generalize (out.map ni).map eN = D at *
   generalize Sl j round = row at *
   simp [F_spec_BestRounds_L1,hj,hj',nj,b,bI,w7,-Int.natCast_add]
  | true =>
   rw [hb] at b rp2 lj2
   simp only [if_true] at rp2 lj2 ⊢
   rw [List.length_append,List.length_singleton] at lj2 rp2
   have ep : rP us (Sl j round ++ [j]) = rP us (Sl j round) * pA us j := by rw [rP_app]; simp [rP]
   obtain ⟨d,hd⟩ : ∃ d,(Sl us.length round).length = (Sl j round).length + 1 + d := ⟨(Sl us.length round).length - (Sl j round).length - 1,by omega⟩
   rw [ep] at rp2
   have w1 := wt_le (n := d) (d := (Sl j round).length + 1) (q := q) h0 (by rw [← hd]; exact hx) rp2.1 rp2.2
   have w2 := wt_le (n := d) (d := (Sl j round).length) (q := q) h0 (Int.le_trans (Int.mul_le_mul_of_nonneg_left (show (6 : Int) ^ ((Sl j round).length + d + q) ≤ 6 ^ ((Sl us.length round).length + q) from by
    rw [hd,show (Sl j round).length + 1 + d + q = (Sl j round).length + d + q + 1 by omega,Int.pow_succ]
    have := p6_pos ((Sl j round).length + d + q)
    omega) h0) hx) rp.1 rp.2
   have la : (Sl j round ++ [j]).length = (Sl j round).length + 1 := by simp
   rw [ep,la,hd,show (Sl j round).length + 1 + d - (Sl j round).length + q = d + q + 1 by omega,show (Sl j round).length + 1 + d - ((Sl j round).length + 1) + q = d + q by omega]
   have e6 : X * rP us (Sl j round) * 6 ^ (d + q + 1) = X * rP us (Sl j round) * 6 ^ (d + q) * 6 := by rw [Int.pow_succ,← Int.mul_assoc]
   have e7 : X * (rP us (Sl j round) * pA us j) * 6 ^ (d + q) = X * rP us (Sl j round) * 6 ^ (d + q) * pA us j := by
    rw [← Int.mul_assoc,Int.mul_assoc,Int.mul_comm (pA us j),← Int.mul_assoc]
   rw [e7] at w1
   have td := tdiv6 w2.1
   rw [e6,e7]
   have ap := ni_app (Sl j round) [j]
   have nj1 : ni [j] = [(j : Int)] := rfl
   have nl := ni_len (Sl j round)
   have cb1 : (Sl j round).length + 1 ≤ bound := by unfold bound; omega
   unfold stB1
   rw [la,ap,nj1]
   generalize X * rP us (Sl j round) * 6 ^ (d + q) = V at *
   have w4 : wr (V * pA us j) = V * pA us j := wr_id (by omega) (by omega)
   have w5 : wr V = V := wr_id (by omega) (by omega)
   generalize cA us j = c at *
   generalize pA us j = p at *
   generalize (out.map ni).map eN = D at *
   generalize Sl j round = row at *
   simp [F_spec_BestRounds_L1,hj,hj',nj,b,bI,at2,td,nl,cb1,w4,w5,w7,-Int.natCast_add]
 ·show ex lf F_spec_BestRounds_L1 (stB1 us fee out so (X * rP us (Sl us.length round) * 6 ^ ((Sl us.length round).length - (Sl us.length round).length + q)) best round (Sl us.length round) us.length) = _
  rw [Nat.sub_self,Nat.zero_add]
  unfold stB1
  generalize X * rP us (Sl us.length round) * 6 ^ q = V at *
  generalize (out.map ni).map eN = D at *
  generalize Sl us.length round = row at *
  simp [F_spec_BestRounds_L1]
set_option maxHeartbeats 4000000 in
theorem br_outer {us : List T} (h : us.all tOk = true) (hm : us.length ≤ 5) {fee best : Int} (hf : 0 ≤ fee ∧ fee ≤ 22) : ∀ (f so : Nat) (out : LN) (X : Int),so < 2 ^ us.length → (Sl us.length so).length ≤ f → 0 < X → X * 6 ^ (Sl us.length so).length ≤ 7776 → out.length + f ≤ 5 →
  ∃ w',ex lf F_spec_BestRounds_W0 (stB0 us fee out so (X * 6 ^ (Sl us.length so).length) best) = some (.exit 0,stB0 us fee (out ++ rwR us fee f so) 0 w' best) := by
 have done : ∀ (out : LN) (w : Int),ex lf F_spec_BestRounds_W0 (stB0 us fee out 0 w best) = some (.exit 0,stB0 us fee out 0 w best) := fun out w => by
  rw [w_spec_BestRounds_0]
  unfold stB0
  generalize (out.map ni).map eN = D at *
  simp [F_spec_BestRounds_L0]
 have zero : ∀ {f so : Nat},so < 2 ^ us.length → (Sl us.length so).length ≤ f → f = 0 → so = 0 := fun hs hl e => by
  rename_i so
  rcases Nat.eq_zero_or_pos so with q | q
  ·exact q
  ·have := Sl_ne hm hs (by omega); omega
 intro f
 induction f with
 | zero =>
  intro so out X hs hl h0 hx ho
  have e := zero hs hl rfl
  subst e
  simp only [rwR]
  rw [List.append_nil]
  exact ⟨_,done out _⟩
 | succ f ih =>
  intro so out X hs hl h0 hx ho
  by_cases q : so = 0
  ·subst q
   have er : rwR us fee (f + 1) 0 = [] := by unfold rwR; rw [if_pos rfl]
   rw [er,List.append_nil]
   exact ⟨_,done out _⟩
  ·have p32 : 2 ^ us.length ≤ 2 ^ 5 := Nat.pow_le_pow_right (by omega) hm
   have pos : ∀ r,1 ≤ r → r &&& so = r → 0 ≤ cst us fee (fun s => (rbR us fee f s).1) so r := (rbR_nn h hm hf.1 (f + 1) so hs).2 (by omega)
   have B := rbst_spec pos so
   have e : rbR us fee (f + 1) so = rbst us fee (fun s => (rbR us fee f s).1) so so := by simp only [rbR]; rw [if_neg q]
   have C := c_spec_l10Best h hm hf (f + 1) so X hs hl h0 hx
   rw [← e] at B
   have er : rwR us fee (f + 1) so = Sl us.length (rbR us fee (f + 1) so).2 :: rwR us fee f (so - (rbR us fee (f + 1) so).2) := by simp only [rwR]; rw [if_neg q]
   rcases B with ⟨_,b⟩ | ⟨_,⟨b1,b2,b3⟩,_,_⟩
   ·exact absurd (Nat.and_self so) (b so (by omega) (Nat.le_refl _))
   ·rw [er]
    clear e er
    generalize (rbR us fee (f + 1) so).2 = r at *
    generalize X * (rbR us fee (f + 1) so).1 = v at *
    obtain ⟨s1,s2,s3,s4⟩ := sub_perm hm hs b3
    have sl := s1.length_eq
    rw [List.length_append] at sl
    have sp := s2 b1
    have rp := rP_bd h (g := Sl us.length r) fun k hk => (Sl_mem.1 hk).1
    have hx' : X * 6 ^ ((Sl us.length r).length + (Sl us.length (so - r)).length) ≤ 7776 := by rw [← sl]; exact hx
    have I := br_inner (us := us) (so := so) (fee := fee) (best := best) (out := out) (round := r) (X := X) h hm (by omega) hx'
    have wt := wt_le (X := X) (n := 0) (d := (Sl us.length r).length) (q := (Sl us.length (so - r)).length) (by omega) (by rw [Nat.add_zero]; exact hx') rp.1 rp.2
    rw [Nat.zero_add] at wt
    obtain ⟨w',J⟩ := ih (so - r) (out ++ [Sl us.length r]) (X * rP us (Sl us.length r)) s4 (by omega) (Int.mul_pos h0 rp.1) wt.2 (by rw [List.length_append,List.length_singleton]; omega)
    refine ⟨w',?_⟩
    have ea : out ++ Sl us.length r :: rwR us fee f (so - r) = (out ++ [Sl us.length r]) ++ rwR us fee f (so - r) := by rw [List.append_assoc]; rfl
    rw [ea,← J,w_spec_BestRounds_0]
    have w1 : wr (((so : Nat) : Int) - ((r : Nat) : Int)) = ((so - r : Nat) : Int) := by rw [wr_id (by omega) (by omega)]; omega
    have so0 : (0 : Int) < so := by omega
    have so0' : 0 < so := by omega
    have la : (out ++ [Sl us.length r]).length = out.length + 1 := by simp
    have ma : ((out ++ [Sl us.length r]).map ni).map eN = (out.map ni).map eN ++ [.sl 1 ((ni (Sl us.length r)).map .i)] := by simp [eN]
    have cb1 : out.length + 1 ≤ bound := by unfold bound; omega
    have ol : ((out.map ni).map eN).length = out.length := by simp
    have nl := ni_len (Sl us.length r)
    have tk : List.take (Sl us.length r).length ((ni (Sl us.length r)).map DV.i) = (ni (Sl us.length r)).map .i := List.take_of_length_le (by simp [nl])
    have n0 : (ni []).map DV.i = [] := rfl
    rw [← sl] at I
    unfold stB0
    unfold stB1 at I
    rw [n0] at I
    rw [la,ma]
    simp only [Int.natCast_zero,List.length_nil] at I
    generalize X * rP us (Sl us.length r) * 6 ^ (Sl us.length (so - r)).length = V at *
    generalize X * 6 ^ (Sl us.length so).length = W at *
    generalize (out.map ni).map eN = D at *
    generalize Sl us.length r = row at *
    generalize ex lf F_spec_BestRounds_W0 = E at *
    simp [F_spec_BestRounds_L0,so0,so0',C,I,w1,cb1,ol,nl,tk,-Int.natCast_add]
def brO (us : List T) (fee : Int) : Bool := tsOk us && decide (0 ≤ fee ∧ fee ≤ 20)
def brN (us : List T) (fee : Int) : Int := if brO us fee then brV us fee else -1
def brL (us : List T) (fee : Int) : LN := if brO us fee then brR us fee else []
set_option maxHeartbeats 1000000 in
theorem c_spec_BestRounds (us : List T) (fee : Int) (ha : (us.length : Int) < 1099511627776) :
  call lf n_spec_BestRounds [.sl 0 (us.map e2),.i fee] = some (.tup [.fr 1 (((brL us fee).map ni).map eN),.i (brN us fee)],[]) := by
 rw [call_k lf n_spec_BestRounds _ (F := F_spec_BestRounds) rfl rfl]
 have C1 := c_spec_TestsOk us ha
 have C3 := c_spec_l1In fee 0 20
 unfold brN brL brO
 cases h1 : tsOk us with
 | false => rw [h1] at C1; simp [F_spec_BestRounds,C1]
 | true =>
  rw [h1] at C1
  cases h3 : decide (0 ≤ fee ∧ fee ≤ 20) with
  | false => rw [h3] at C3; simp [F_spec_BestRounds,C1,C3]
  | true =>
   rw [h3] at C3
   have h4 := of_decide_eq_true h3
   have h' := tsOk_iff.1 h1
   have P := c_spec_l1Power (n := us.length) (by omega)
   have pk := p6 (n := us.length) (by omega)
   have p32 : 2 ^ us.length ≤ 2 ^ 5 := Nat.pow_le_pow_right (by omega) (by omega)
   have pp := Nat.two_pow_pos us.length
   have hs : 2 ^ us.length - 1 < 2 ^ us.length := by omega
   have sa := Sl_all (m := us.length) (by omega)
   have hl : (Sl us.length (2 ^ us.length - 1)).length = us.length := by rw [sa]; simp
   have C := c_spec_l10Best h'.2 (by omega) (fee := fee) ⟨h4.1,by omega⟩ us.length (2 ^ us.length - 1) 1 hs (by omega) (by omega) (by rw [hl]; omega)
   obtain ⟨w',J⟩ := br_outer (us := us) (fee := fee) (best := brV us fee) h'.2 (by omega) ⟨h4.1,by omega⟩ us.length (2 ^ us.length - 1) [] 1 hs (by omega) (by omega) (by rw [hl]; omega) (by simp; omega)
   rw [hl,Int.one_mul] at C J
   rw [Int.one_mul] at C
   have e1 : (rbR us fee us.length (2 ^ us.length - 1)).1 = brV us fee := rfl
   have e2' : rwR us fee us.length (2 ^ us.length - 1) = brR us fee := rfl
   rw [e1] at C
   rw [e2',List.nil_append] at J
   have sh : shlI 1 (us.length : Int) = ((2 ^ us.length : Nat) : Int) := by
    have := shl_bI (b := true) (s := us.length) (by omega)
    simpa [bI] using this
   have w1 : wr (((2 ^ us.length : Nat) : Int) - 1) = ((2 ^ us.length - 1 : Nat) : Int) := by rw [wr_id (by omega) (by omega)]; omega
   have nl : ¬ (us.length : Int) < 0 := by omega
   have lr : (((brR us fee).map ni).map eN).length = (brR us fee).length := by simp
   have tk : List.take (brR us fee).length (((brR us fee).map ni).map eN) = ((brR us fee).map ni).map eN := List.take_of_length_le (by simp)
   rw [Bool.true_and,if_pos rfl,if_pos rfl]
   unfold stB0 at J
   simp only [List.map_nil,List.length_nil,Int.natCast_zero] at J
   generalize (rbR us fee us.length (2 ^ us.length - 1)).2 = z at *
   generalize brV us fee = v at *
   generalize ((brR us fee).map ni).map eN = D at *
   generalize (brR us fee).length = n at *
   generalize hS : 2 ^ us.length - 1 = S at *
   generalize (2 ^ us.length : Nat) = S2 at *
   generalize (6 : Int) ^ us.length = Q at *
   simp [F_spec_BestRounds,C1,C3,P,C,J,sh,w1,nl,lr,tk]
end
section
attribute [-simp] DV.cells
attribute [local simp] sliceD cells_st cells_sl cells_i cells_y cells_b cells_s cells_w
attribute [local simp] lend_eR al_eR lend_eN adopt_eN new_eN
attribute [local simp] cells_cel noc_i noc_y noc_eN noCelE noCelO noCelL DV.noCel
theorem noc_eR (L : List (List Int)) : noCelL (L.map eR) = true := by
 rw [noCelL_all,List.all_map,List.all_eq_true]
 intro x _
 show noCelL (x.map DV.i) = true
 exact noc_i x
attribute [local simp] noc_eR
end
section
attribute [-simp] DV.cells
attribute [local simp] sliceD cells_st cells_sl cells_i cells_y cells_b cells_s cells_w
theorem brO_iff {us : List T} {fee : Int} : brO us fee = true ↔ tsOk us = true ∧ 0 ≤ fee ∧ fee ≤ 20 := by unfold brO; simp
theorem brN_bad {us : List T} {fee : Int} (h : brO us fee = false) : brN us fee = -1 ∧ brL us fee = [] := by
 unfold brN brL; rw [h]; exact ⟨rfl,rfl⟩
end
section
theorem dst_gok {L : LN} (nd : L.flatten.Nodup) : Dst (L.map ni) := by
 intro i j r s hij hi hj hr hs he
 rw [List.getElem?_map,Option.map_eq_some_iff] at hi hj
 obtain ⟨g,hg,rfl⟩ := hi
 obtain ⟨f,hf,rfl⟩ := hj
 cases g with
 | nil => exact hr rfl
 | cons x g =>
  cases f with
  | nil => exact hs rfl
  | cons y f =>
   have e : x = y := by
    simp only [ni,List.map_cons,List.head?_cons,Option.some.injEq] at he
    omega
   subst e
   obtain ⟨il,hi'⟩ := List.getElem?_eq_some_iff.1 hg
   obtain ⟨jl,hj'⟩ := List.getElem?_eq_some_iff.1 hf
   have key : ∀ {i j : Nat} (il : i < L.length) (jl : j < L.length),i < j → (∃ g,L[i] = x :: g) → (∃ f,L[j] = x :: f) → False := by
    rintro i j il jl hlt ⟨g,hg⟩ ⟨f,hf⟩
    have h1 := (List.pairwise_flatten.1 nd).2
    have h2 := List.pairwise_iff_getElem.1 h1 i j il jl hlt
    rw [hg,hf] at h2
    exact h2 x (List.mem_cons_self ..) x (List.mem_cons_self ..) rfl
   rcases Nat.lt_or_gt_of_ne hij with h | h
   ·exact key il jl h ⟨g,hi'⟩ ⟨f,hj'⟩
   ·exact key jl il h ⟨f,hj'⟩ ⟨g,hi'⟩
end
section
attribute [-simp] DV.cells
attribute [local simp] sliceD cells_st cells_sl cells_i cells_y cells_b cells_s cells_w
set_option maxHeartbeats 4000000 in
theorem c_impl_allOf {us : List T} (h : tsOk us = true) : call lf n_impl_allOf [.sl 0 (us.map e2)] = some (.i ((2 ^ us.length - 1 : Nat) : Int),[]) := by
 have ht := tsOk_iff.1 h
 obtain ⟨p0,p1,p2⟩ := pow5 (m := us.length) (by omega) (by omega)
 have S := c_impl_statesOf us.length (by omega) (by omega)
 rw [← p2] at S
 rw [Int.toNat_natCast] at p0 p1 p2 S
 have w1 : wr (((2 ^ us.length : Nat) : Int) - 1) = ((2 ^ us.length - 1 : Nat) : Int) := by rw [wr_id (by omega) (by omega)]; omega
 rw [call_k lf n_impl_allOf _ (F := F_impl_allOf) rfl rfl]
 generalize (2 ^ us.length - 1 : Nat) = a at *
 generalize (2 ^ us.length : Nat) = b at *
 simp [F_impl_allOf,S,w1]
end
section
attribute [-simp] DV.cells
attribute [local simp] sliceD cells_st cells_sl cells_i cells_y cells_b cells_s cells_w
attribute [local simp] lend_eR al_eR
theorem c_impl_feeOk (fee : Int) : call lf n_impl_feeOk [.i fee] = some (.b (decide (0 ≤ fee ∧ fee ≤ 20)),[]) := by
 rw [call_k lf n_impl_feeOk _ (F := F_impl_feeOk) rfl rfl]
 simp [F_impl_feeOk,c_impl_isWithin]
def stAv (us : List T) (r : Nat) (n : Nat) (beh : Int) (cost yes : Int) (k : Nat) : LS :=
 ⟨[(1,.i r),(3,.i n),(4,.i beh),(11,.i cost),(12,.i yes),(16,.sl 0 (us.map e2)),(17,.i us.length),(18,.i k)],[]⟩
set_option maxHeartbeats 4000000 in
theorem av_loop {us : List T} (h : us.all tOk = true) (hm : us.length ≤ 5) {r n : Nat} {fee beh : Int} (hf : 0 ≤ fee ∧ fee ≤ 22) :
  ex lf F_impl_averageOfRound_W0 (stAv us r n beh fee 1 0) = some (.exit 0,stAv us r n beh (fee + rC us (Sl us.length r)) (rP us (Sl us.length r)) us.length) := by
 have z : Sl 0 r = [] := rfl
 have e0 : stAv us r n beh fee 1 0 = stAv us r n beh (fee + rC us (Sl 0 r)) (rP us (Sl 0 r)) 0 := by rw [z]; simp [rC,rP]
 rw [e0]
 refine loop_count (lf := lf) (L := F_impl_averageOfRound_L0) us.length (fun j => stAv us r n beh (fee + rC us (Sl j r)) (rP us (Sl j r)) j) (fun j hj => ?_) ?_ (by simp)
 ·have jm : ∀ k ∈ Sl j r,k < us.length := fun k hk => by have := (Sl_mem.1 hk).1; omega
  have rc := rC_bd h jm
  have rp := rP_bd h jm
  have hj' : (j : Int) < us.length := by omega
  have w7 := wr_succ (k := j) (by omega)
  have at2 := atT hj
  have cb := cA_bd h hj
  have pb := pA_bd h hj
  have l5 : (Sl j r).length ≤ j := by
   have := List.length_filter_le r.testBit (List.range j)
   rw [List.length_range] at this
   exact this
  have C := c_impl_hasTest r j (by omega)
  have p6' := (p6 (n := (Sl j r).length) (by omega)).2
  show ex lf F_impl_averageOfRound_L0 (stAv us r n beh (fee + rC us (Sl j r)) (rP us (Sl j r)) j) = some (.normal,stAv us r n beh (fee + rC us (Sl (j + 1) r)) (rP us (Sl (j + 1) r)) (j + 1))
  rw [Sl_succ]
  cases hb : r.testBit j with
  | false =>
   rw [hb] at C
   simp only [Bool.false_eq_true,if_false,List.append_nil]
   unfold stAv
   generalize fee + rC us (Sl j r) = U at *
   generalize rP us (Sl j r) = V at *
   simp [F_impl_averageOfRound_L0,hj,hj',C,at2,w7,-Int.natCast_add]
  | true =>
   rw [hb] at C
   simp only [if_true]
   have ec : rC us (Sl j r ++ [j]) = rC us (Sl j r) + cA us j := by rw [rC_app]; simp [rC]
   have ep : rP us (Sl j r ++ [j]) = rP us (Sl j r) * pA us j := by rw [rP_app]; simp [rP]
   rw [ec,ep,← Int.add_assoc]
   unfold stAv
   have w3 : wr (fee + rC us (Sl j r) + cA us j) = fee + rC us (Sl j r) + cA us j := wr_id (by omega) (by omega)
   have mb : 0 ≤ rP us (Sl j r) * pA us j ∧ rP us (Sl j r) * pA us j ≤ 7776 * 6 := ⟨Int.mul_nonneg (by omega) (by omega),Int.mul_le_mul (by omega) (by omega) (by omega) (by omega)⟩
   have w4 : wr (rP us (Sl j r) * pA us j) = rP us (Sl j r) * pA us j := wr_id (by omega) (by omega)
   generalize fee + rC us (Sl j r) = U at *
   generalize rP us (Sl j r) = V at *
   generalize cA us j = c at *
   generalize pA us j = p at *
   simp [F_impl_averageOfRound_L0,hj,hj',C,at2,w3,w4,w7,-Int.natCast_add]
 ·show ex lf F_impl_averageOfRound_L0 (stAv us r n beh (fee + rC us (Sl us.length r)) (rP us (Sl us.length r)) us.length) = _
  unfold stAv
  generalize fee + rC us (Sl us.length r) = U at *
  generalize rP us (Sl us.length r) = V at *
  simp [F_impl_averageOfRound_L0]
theorem c_impl_averageOfRound {us : List T} (h : us.all tOk = true) (hm : us.length ≤ 5) {r n : Nat} (hn : n ≤ 5) {fee beh : Int} (hf : 0 ≤ fee ∧ fee ≤ 22) (hb : 0 ≤ beh ∧ beh ≤ 10000000) :
  call lf n_impl_averageOfRound [.sl 0 (us.map e2),.i r,.i fee,.i n,.i beh] = some (.i ((fee + rC us (Sl us.length r)) * 6 ^ n + rP us (Sl us.length r) * beh),[]) := by
 rw [call_k lf n_impl_averageOfRound _ (F := F_impl_averageOfRound) rfl rfl]
 have L := av_loop (r := r) (n := n) (beh := beh) h hm hf
 have C := c_impl_wholeOf (n := n) hn
 have jm : ∀ k ∈ Sl us.length r,k < us.length := fun k hk => (Sl_mem.1 hk).1
 have rc := rC_bd h jm
 have rp := rP_bd h jm
 have l5 : (Sl us.length r).length ≤ us.length := by
  have := List.length_filter_le r.testBit (List.range us.length)
  rw [List.length_range] at this
  exact this
 have p6' := (p6 (n := (Sl us.length r).length) (by omega)).2
 have q6 := (p6 (n := n) hn).2
 have q0 := p6_pos n
 have m1 : 0 ≤ (fee + rC us (Sl us.length r)) * 6 ^ n ∧ (fee + rC us (Sl us.length r)) * 6 ^ n ≤ 70 * 7776 := ⟨Int.mul_nonneg (by omega) (by omega),Int.mul_le_mul (by omega) q6 (by omega) (by omega)⟩
 have m2 : 0 ≤ rP us (Sl us.length r) * beh ∧ rP us (Sl us.length r) * beh ≤ 7776 * 10000000 := ⟨Int.mul_nonneg (by omega) hb.1,Int.mul_le_mul (by omega) hb.2 hb.1 (by omega)⟩
 unfold stAv at L
 simp only [Int.natCast_zero] at L
 generalize fee + rC us (Sl us.length r) = U at *
 generalize rP us (Sl us.length r) = V at *
 generalize (6 : Int) ^ n = Q at *
 have w1 : wr (U * Q) = U * Q := wr_id (by omega) (by omega)
 have w2 : wr (V * beh) = V * beh := wr_id (by omega) (by omega)
 have w3 : wr (U * Q + V * beh) = U * Q + V * beh := wr_id (by omega) (by omega)
 simp [F_impl_averageOfRound,L,C,w1,w2,w3]
def stRo (r : Nat) (k : Nat) (row : List Nat) : LS := ⟨[(0,.i r),(3,.own 1544 row.length 0 row.length),(5,.i k)],[(1544,(ni row).map .i)]⟩
theorem row_loop (r : Nat) : ex lf F_impl_rowOf_W0 (stRo r 0 []) = some (.exit 0,stRo r 5 (Sl 5 r)) := by
 refine loop_count (lf := lf) (L := F_impl_rowOf_L0) 5 (fun j => stRo r j (Sl j r)) (fun j hj => ?_) ?_ (by simp)
 ·have hj' : (j : Int) < 5 := by omega
  have w7 := wr_succ (k := j) (by omega)
  have C := c_impl_hasTest r j (by omega)
  have l5 : (Sl j r).length ≤ j := by
   have := List.length_filter_le r.testBit (List.range j)
   rw [List.length_range] at this
   exact this
  have lb : (Sl j r).length + 1 ≤ bound := by unfold bound; omega
  have nl := ni_len (Sl j r)
  show ex lf F_impl_rowOf_L0 (stRo r j (Sl j r)) = some (.normal,stRo r (j + 1) (Sl (j + 1) r))
  rw [Sl_succ]
  cases hb : r.testBit j with
  | false =>
   rw [hb] at C
   simp only [Bool.false_eq_true,if_false,List.append_nil]
   unfold stRo
   generalize Sl j r = f at *
   simp [F_impl_rowOf_L0,hj',C,w7,-Int.natCast_add]
  | true =>
   rw [hb] at C
   simp only [if_true]
   have e1 : ni (Sl j r ++ [j]) = ni (Sl j r) ++ [(j : Int)] := by unfold ni; simp
   unfold stRo
   rw [e1,List.length_append,List.length_singleton,List.map_append]
   generalize Sl j r = f at *
   generalize ni f = g at *
   simp [F_impl_rowOf_L0,hj',C,w7,lb,nl,-Int.natCast_add]
 ·show ex lf F_impl_rowOf_L0 (stRo r 5 (Sl 5 r)) = _
  unfold stRo
  generalize Sl 5 r = f at *
  simp [F_impl_rowOf_L0]
theorem c_impl_rowOf (r : Nat) : call lf n_impl_rowOf [.i r] = some (.fr 1 ((ni (Sl 5 r)).map .i),[]) := by
 rw [call_k lf n_impl_rowOf _ (F := F_impl_rowOf) rfl rfl]
 have L := row_loop r
 have nl := ni_len (Sl 5 r)
 unfold stRo at L
 simp only [Int.natCast_zero,List.length_nil] at L
 have z : ni [] = [] := rfl
 rw [z] at L
 simp only [List.map_nil] at L
 generalize Sl 5 r = f at *
 generalize ni f = g at *
 simp [F_impl_rowOf,L,nl]
end
section
attribute [-simp] DV.cells sliceD
attribute [local simp] cells_st cells_sl cells_i cells_y cells_b cells_s cells_w
/-- the rounds as sets -/
def swR (us : List T) (fee : Int) : Nat → Nat → List Nat
 | 0,_ => []
 | f + 1,so => if so = 0 then [] else (rbR us fee (f + 1) so).2 :: swR us fee f (so - (rbR us fee (f + 1) so).2)
theorem swR_rows (us : List T) (fee : Int) : ∀ f so,rwR us fee f so = (swR us fee f so).map (Sl us.length)
 | 0,_ => rfl
 | f + 1,so => by
  simp only [rwR,swR]
  by_cases h : so = 0
  ·rw [if_pos h,if_pos h]; rfl
  ·rw [if_neg h,if_neg h,List.map_cons,swR_rows us fee f]
/-- the best so far,as the program holds it -/
def bsR (us : List T) (fee : Int) (f so : Nat) (st : Int × Nat) : List Int × Int := if st.1 < 0 then ([],0) else (ni (st.2 :: swR us fee f (so - st.2)),st.1)
def stRb (us : List T) (so : Nat) (fee : Int) (D : DV) (l : Int) (n : Nat) (ob : OB) : LS :=
 ⟨[(0,.sl 0 (us.map e2)),(1,.i so),(2,.i fee),(8,D),(9,.i l),(10,.i n)],ob⟩
theorem andNot_nat {a b : Nat} (ha : a < 32) (hb : b < 32) : andNotI (a : Int) (b : Int) = ((a &&& (31 ^^^ b) : Nat) : Int) := by
 have key : ∀ (a b : _root_.Fin 32),andNotI ((a.val : Nat) : Int) ((b.val : Nat) : Int) = ((a.val &&& (31 ^^^ b.val) : Nat) : Int) := by decide +kernel
 exact key ⟨a,ha⟩ ⟨b,hb⟩
theorem notin_fin : ∀ (a b : _root_.Fin 32),((a.val &&& (31 ^^^ b.val)) = 0 ↔ a.val &&& b.val = a.val) ∧ (b.val &&& a.val = b.val → a.val &&& (31 ^^^ b.val) = a.val - b.val) := by decide +kernel
theorem notin_iff {a b : Nat} (ha : a < 32) (hb : b < 32) : (a &&& (31 ^^^ b)) = 0 ↔ a &&& b = a := (notin_fin ⟨a,ha⟩ ⟨b,hb⟩).1
theorem notin_sub {a b : Nat} (ha : a < 32) (hb : b < 32) (h : b &&& a = b) : a &&& (31 ^^^ b) = a - b := (notin_fin ⟨a,ha⟩ ⟨b,hb⟩).2 h
theorem pc_Sl {m so : Nat} (hm : m ≤ 5) (hs : so < 2 ^ m) : pc so = (Sl m so).length := by
 have key : ∀ (m : _root_.Fin 6) (so : _root_.Fin 32),so.val < 2 ^ m.val → pc so.val = (Sl m.val so.val).length := by decide +kernel
 have p : 2 ^ m ≤ 2 ^ 5 := Nat.pow_le_pow_right (by omega) hm
 exact key ⟨m,by omega⟩ ⟨so,by omega⟩ hs
def RbOk (us : List T) (fee : Int) (f : Nat) : Prop := ∀ so,so < 2 ^ us.length → (Sl us.length so).length ≤ f →
  call lf n_impl_bestRoundsOf [.sl 0 (us.map e2),.i so,.i fee] = some (.tup [bR (ni (swR us fee f so)),.i (rbR us fee f so).1],[])
theorem rb_skip {us : List T} (hm : us.length ≤ 5) {so n K : Nat} {fee : Int} {b : List Int} {l : Int} (hK : K = 4104 ∨ K = 24072) (hs : so < 32) (hn : n ≤ so) (q : n &&& so ≠ n) :
  ex lf F_impl_bestRoundsOf_L0 (stRb us so fee (bD K b) l n (bO K b)) = some (.normal,stRb us so fee (bD 4104 b) l (n + 1) (bO 4104 b)) := by
 have hin : (n : Int) ≤ (so : Int) := by omega
 have w1 := wr_succ (k := n) (by omega)
 have an := andNot_nat (a := n) (b := so) (by omega) (by omega)
 have nz : (n &&& (31 ^^^ so)) ≠ 0 := fun h => q ((notin_iff (by omega) (by omega)).1 h)
 have nz' : (((n &&& (31 ^^^ so) : Nat) : Int) != 0) = true := by simp; omega
 generalize n &&& (31 ^^^ so) = z at *
 unfold stRb bD bO
 by_cases hb0 : b = []
 ·simp [F_impl_bestRoundsOf_L0,ren_nil,hb0,hin,an,nz',w1,-Int.natCast_add]
 ·rcases hK with rfl | rfl <;> simp [F_impl_bestRoundsOf_L0,ren_nil,hb0,hin,an,nz',w1,-Int.natCast_add]
set_option maxHeartbeats 4000000 in
theorem rb_take {us : List T} (h : us.all tOk = true) (hm : us.length ≤ 5) {so n K : Nat} {fee : Int} (hf : 0 ≤ fee ∧ fee ≤ 22) {b r1 : List Int} {l r2 : Int} (hK : K = 4104 ∨ K = 24072) (hs : so < 32) (hsu : so < 2 ^ us.length) (hn : n ≤ so) (q : n &&& so = n) (hr : r1.length ≤ 5)
  (C : call lf n_impl_bestRoundsOf [.sl 0 (us.map e2),.i ((so - n : Nat) : Int),.i fee] = some (.tup [bR r1,.i r2],[])) (hr2 : 0 ≤ r2 ∧ r2 ≤ 1000000) {A : Int} (hA : A = (fee + rC us (Sl us.length n)) * 6 ^ (Sl us.length so).length + rP us (Sl us.length n) * r2) :
  ex lf F_impl_bestRoundsOf_L0 (stRb us so fee (bD K b) l n (bO K b)) = some (.normal,if b = [] ∨ A < l then stRb us so fee (bD 24072 ((n : Int) :: r1)) A (n + 1) (bO 24072 ((n : Int) :: r1)) else stRb us so fee (bD 4104 b) l (n + 1) (bO 4104 b)) := by
 have hin : (n : Int) ≤ (so : Int) := by omega
 have w1 := wr_succ (k := n) (by omega)
 have an := andNot_nat (a := n) (b := so) (by omega) (by omega)
 rw [(notin_iff (by omega) (by omega)).2 q,Int.natCast_zero] at an
 have an2 := andNot_nat (a := so) (b := n) (by omega) (by omega)
 rw [notin_sub (by omega) (by omega) q] at an2
 have S := c_impl_sizeOf (n := so) hs
 have ps := pc_Sl hm hsu
 rw [ps] at S
 have l5 : (Sl us.length so).length ≤ 5 := by
  have := List.length_filter_le so.testBit (List.range us.length)
  rw [List.length_range] at this
  exact Nat.le_trans this hm
 have V := c_impl_averageOfRound (us := us) (r := n) (n := (Sl us.length so).length) (fee := fee) (beh := r2) h hm l5 hf ⟨hr2.1,by omega⟩
 rw [← hA] at V
 clear hA
 have lb : 1 + r1.length ≤ bound := by unfold bound; omega
 have lb' : r1.length + 1 ≤ bound := by unfold bound; omega
 have lb1 : 1 ≤ bound := by unfold bound; omega
 have ac : 1 + r1.length = r1.length + 1 := by omega
 generalize so - n = s2 at *
 generalize (Sl us.length so).length = k at *
 unfold bR at C
 unfold stRb bD bO
 by_cases hb0 : b = []
 ·subst hb0
  by_cases hr0 : r1 = []
  ·subst hr0
   simp at C
   simp [F_impl_bestRoundsOf_L0,ren_nil,hin,an,an2,S,V,w1,C,lb1,-Int.natCast_add]
  ·rw [if_neg hr0] at C
   simp [F_impl_bestRoundsOf_L0,ren_nil,hin,an,an2,S,V,w1,C,lb,lb',ac,hr0,-Int.natCast_add]
 ·have bl : 0 < b.length := List.length_pos_iff.2 hb0
  by_cases hlt : A < l
  ·by_cases hr0 : r1 = []
   ·subst hr0
    simp at C
    rcases hK with rfl | rfl <;> simp [F_impl_bestRoundsOf_L0,ren_nil,hb0,hin,an,an2,S,V,w1,C,lb1,hlt,-Int.natCast_add]
   ·rw [if_neg hr0] at C
    rcases hK with rfl | rfl <;> simp [F_impl_bestRoundsOf_L0,ren_nil,hb0,hin,an,an2,S,V,w1,C,lb,lb',ac,hr0,hlt,-Int.natCast_add]
  ·by_cases hr0 : r1 = []
   ·subst hr0
    simp at C
    rcases hK with rfl | rfl <;> simp [F_impl_bestRoundsOf_L0,ren_nil,hb0,hin,an,an2,S,V,w1,C,lb1,hlt,-Int.natCast_add]
   ·rw [if_neg hr0] at C
    rcases hK with rfl | rfl <;> simp [F_impl_bestRoundsOf_L0,ren_nil,hb0,hin,an,an2,S,V,w1,C,lb,lb',ac,hr0,hlt,-Int.natCast_add]
theorem swR_len {us : List T} (h : us.all tOk = true) (hm : us.length ≤ 5) {fee : Int} (hf : 0 ≤ fee) : ∀ (f so : Nat),so < 2 ^ us.length → (swR us fee f so).length ≤ (Sl us.length so).length
 | 0,_,_ => Nat.zero_le _
 | f + 1,so,hs => by
  simp only [swR]
  by_cases q : so = 0
  ·rw [if_pos q]; exact Nat.zero_le _
  ·rw [if_neg q]
   have e : rbR us fee (f + 1) so = rbst us fee (fun s => (rbR us fee f s).1) so so := by simp only [rbR]; rw [if_neg q]
   have pos := (rbR_nn h hm hf (f + 1) so hs).2 (by omega)
   rcases rbst_spec (us := us) (fee := fee) (v := fun s => (rbR us fee f s).1) (so := so) pos so with ⟨_,b⟩ | ⟨_,⟨b1,b2,b3⟩,_,_⟩
   ·exact absurd (Nat.and_self so) (b so (by omega) (Nat.le_refl _))
   ·rw [← e] at b1 b2 b3
    obtain ⟨p,n1,_,lt⟩ := sub_perm hm hs b3
    have ih := swR_len h hm hf f (so - (rbR us fee (f + 1) so).2) lt
    have := p.length_eq
    rw [List.length_append] at this
    have := n1 b1
    simp only [List.length_cons]
    omega
set_option maxHeartbeats 1000000 in
theorem rb_loop {us : List T} (h : us.all tOk = true) (hm : us.length ≤ 5) {fee : Int} (hf : 0 ≤ fee ∧ fee ≤ 22) {f : Nat} (ih : RbOk us fee f) {so : Nat} (hs : so < 2 ^ us.length) (hl : (Sl us.length so).length ≤ f + 1) :
  ∀ (j n K : Nat),n + j = so → (K = 4104 ∨ K = 24072) →
  ex lf F_impl_bestRoundsOf_W0 (stRb us so fee (bD K (bsR us fee f so (rbst us fee (fun s => (rbR us fee f s).1) so n)).1) (bsR us fee f so (rbst us fee (fun s => (rbR us fee f s).1) so n)).2 (n + 1) (bO K (bsR us fee f so (rbst us fee (fun s => (rbR us fee f s).1) so n)).1)) =
  some (.exit 0,stRb us so fee (bD 4104 (bsR us fee f so (rbst us fee (fun s => (rbR us fee f s).1) so so)).1) (bsR us fee f so (rbst us fee (fun s => (rbR us fee f s).1) so so)).2 (so + 1) (bO 4104 (bsR us fee f so (rbst us fee (fun s => (rbR us fee f s).1) so so)).1)) := by
 have p32 : 2 ^ us.length ≤ 2 ^ 5 := Nat.pow_le_pow_right (by omega) hm
 have pos : ∀ r,1 ≤ r → r &&& so = r → 0 ≤ cst us fee (fun s => (rbR us fee f s).1) so r := (rbR_nn h hm hf.1 (f + 1) so hs).2 (by omega)
 intro j
 induction j with
 | zero =>
  intro n K hij hK
  have : n = so := by omega
  subst this
  rw [w_impl_bestRoundsOf_0]
  generalize bsR us fee f n (rbst us fee (fun s => (rbR us fee f s).1) n n) = P
  obtain ⟨b,l⟩ := P
  have nle : ¬ ((n + 1 : Nat) : Int) ≤ n := by omega
  generalize n + 1 = N at *
  unfold stRb bD bO
  by_cases hb0 : b = []
  ·simp [F_impl_bestRoundsOf_L0,ren_nil,hb0,nle]
  ·rcases hK with rfl | rfl <;> simp [F_impl_bestRoundsOf_L0,ren_nil,hb0,nle]
 | succ j ihj =>
  intro n K hij hK
  rw [w_impl_bestRoundsOf_0]
  have st := rbst_spec (us := us) (fee := fee) (v := fun s => (rbR us fee f s).1) (so := so) pos n
  by_cases q : (n + 1) &&& so = n + 1
  ·obtain ⟨s1,s2,s3,s4⟩ := sub_perm hm hs q
   have sl := s1.length_eq
   rw [List.length_append] at sl
   have sp := s2 (by omega)
   have R := ih (so - (n + 1)) s4 (by omega)
   have rn := (rbR_nn h hm hf.1 f (so - (n + 1)) s4).1
   have ru := rbR_up h hm hf f (so - (n + 1)) s4 (by omega)
   have ln := swR_len h hm hf.1 f (so - (n + 1)) s4
   have l5 : (Sl us.length (so - (n + 1))).length ≤ 5 := by
    have := List.length_filter_le (so - (n + 1)).testBit (List.range us.length)
    rw [List.length_range] at this
    exact Nat.le_trans this hm
   have k6 := (p6 (n := (Sl us.length (so - (n + 1))).length) l5).2
   have T := rb_take (us := us) (so := so) (n := n + 1) (K := K) (fee := fee) (b := (bsR us fee f so (rbst us fee (fun s => (rbR us fee f s).1) so n)).1) (l := (bsR us fee f so (rbst us fee (fun s => (rbR us fee f s).1) so n)).2) h hm hf hK (by omega) hs (by omega) q (by rw [ni_len]; omega) R ⟨rn,by omega⟩ (A := cst us fee (fun s => (rbR us fee f s).1) so (n + 1)) rfl
   rw [T]
   have cn := pos (n + 1) (by omega) q
   have e : rbst us fee (fun s => (rbR us fee f s).1) so (n + 1) = if (rbst us fee (fun s => (rbR us fee f s).1) so n).1 < 0 ∨ cst us fee (fun s => (rbR us fee f s).1) so (n + 1) < (rbst us fee (fun s => (rbR us fee f s).1) so n).1 then (cst us fee (fun s => (rbR us fee f s).1) so (n + 1),n + 1) else rbst us fee (fun s => (rbR us fee f s).1) so n := by
    simp only [rbst]
    rw [if_pos q]
   have iff : ((bsR us fee f so (rbst us fee (fun s => (rbR us fee f s).1) so n)).1 = [] ∨ cst us fee (fun s => (rbR us fee f s).1) so (n + 1) < (bsR us fee f so (rbst us fee (fun s => (rbR us fee f s).1) so n)).2) ↔ ((rbst us fee (fun s => (rbR us fee f s).1) so n).1 < 0 ∨ cst us fee (fun s => (rbR us fee f s).1) so (n + 1) < (rbst us fee (fun s => (rbR us fee f s).1) so n).1) := by
    unfold bsR
    by_cases d : (rbst us fee (fun s => (rbR us fee f s).1) so n).1 < 0
    ·rw [if_pos d]; simp [d]
    ·rw [if_neg d]
     simp [d,ni]
   have i1 := ihj (n + 1) 24072 (by omega) (.inr rfl)
   have i2 := ihj (n + 1) 4104 (by omega) (.inl rfl)
   rw [e] at i1 i2
   by_cases hc : (rbst us fee (fun s => (rbR us fee f s).1) so n).1 < 0 ∨ cst us fee (fun s => (rbR us fee f s).1) so (n + 1) < (rbst us fee (fun s => (rbR us fee f s).1) so n).1
   ·rw [if_pos (iff.2 hc)]
    rw [if_pos hc] at i1
    have nn : ¬ cst us fee (fun s => (rbR us fee f s).1) so (n + 1) < 0 := by omega
    have eb : bsR us fee f so (cst us fee (fun s => (rbR us fee f s).1) so (n + 1),n + 1) = (((n + 1 : Nat) : Int) :: ni (swR us fee f (so - (n + 1))),cst us fee (fun s => (rbR us fee f s).1) so (n + 1)) := by
     unfold bsR
     rw [if_neg nn]
     rfl
    rw [eb] at i1
    exact i1
   ·rw [if_neg (fun x => hc (iff.1 x))]
    rw [if_neg hc] at i2
    exact i2
  ·have e : rbst us fee (fun s => (rbR us fee f s).1) so (n + 1) = rbst us fee (fun s => (rbR us fee f s).1) so n := by
    simp only [rbst]
    rw [if_neg q]
   have i2 := ihj (n + 1) 4104 (by omega) (.inl rfl)
   rw [e] at i2
   rw [rb_skip hm hK (by omega) (by omega) q]
   exact i2
theorem rb_ret {us : List T} {so : Nat} {fee : Int} {b : List Int} {l : Int} {n : Nat} (L : ex lf F_impl_bestRoundsOf_W0 (stRb us so fee .nil 0 1 []) = some (.exit 0,stRb us so fee (bD 4104 b) l n (bO 4104 b))) :
  call lf n_impl_bestRoundsOf [.sl 0 (us.map e2),.i so,.i fee] = some (.tup [bR b,.i l],[]) := by
 unfold stRb at L
 rw [call_k lf n_impl_bestRoundsOf _ (F := F_impl_bestRoundsOf) rfl rfl]
 unfold bD bO at L
 unfold bR
 by_cases hb0 : b = []
 ·rw [if_pos hb0,if_pos hb0] at L
  rw [if_pos hb0]
  simp at L
  simp [F_impl_bestRoundsOf,L]
 ·rw [if_neg hb0,if_neg hb0] at L
  rw [if_neg hb0]
  simp at L
  simp [F_impl_bestRoundsOf,L]
theorem c_impl_bestRoundsOf {us : List T} (h : us.all tOk = true) (hm : us.length ≤ 5) {fee : Int} (hf : 0 ≤ fee ∧ fee ≤ 22) : ∀ f,RbOk us fee f
 | 0 => fun so hs hl => by
  have e : so = 0 := by
   rcases Nat.eq_zero_or_pos so with q | q
   ·exact q
   ·have := Sl_ne hm hs (by omega); omega
  subst e
  refine rb_ret (b := []) (l := 0) (n := 1) ?_
  rw [w_impl_bestRoundsOf_0]
  have z1 : bD 4104 [] = .nil := rfl
  have z2 : bO 4104 [] = [] := rfl
  rw [z1,z2]
  unfold stRb
  simp [F_impl_bestRoundsOf_L0,ren_nil]
 | f + 1 => fun so hs hl => by
  have ih := c_impl_bestRoundsOf h hm hf f
  have pos : ∀ r,1 ≤ r → r &&& so = r → 0 ≤ cst us fee (fun s => (rbR us fee f s).1) so r := (rbR_nn h hm hf.1 (f + 1) so hs).2 (by omega)
  have L := rb_loop h hm hf ih hs hl so 0 4104 (by omega) (.inl rfl)
  have z0 : bsR us fee f so (rbst us fee (fun s => (rbR us fee f s).1) so 0) = ([],0) := rfl
  have z1 : bD 4104 [] = .nil := rfl
  have z2 : bO 4104 [] = [] := rfl
  rw [z0] at L
  simp only [z1,z2] at L
  have R := rb_ret L
  rw [R]
  by_cases q : so = 0
  ·subst q
   have e1 : bsR us fee f 0 (rbst us fee (fun s => (rbR us fee f s).1) 0 0) = ([],0) := rfl
   rw [e1]
   simp [rbR,swR,bR,ni]
  ·have e : rbR us fee (f + 1) so = rbst us fee (fun s => (rbR us fee f s).1) so so := by simp only [rbR]; rw [if_neg q]
   have e2' : swR us fee (f + 1) so = (rbR us fee (f + 1) so).2 :: swR us fee f (so - (rbR us fee (f + 1) so).2) := by simp only [swR]; rw [if_neg q]
   rw [e2',e]
   rcases rbst_spec (us := us) (fee := fee) (v := fun s => (rbR us fee f s).1) (so := so) pos so with ⟨_,b⟩ | ⟨a,_⟩
   ·exact absurd (Nat.and_self so) (b so (by omega) (Nat.le_refl _))
   ·unfold bsR
    rw [if_neg (by omega)]
end
section
attribute [-simp] DV.cells
attribute [local simp] sliceD cells_st cells_sl cells_i cells_y cells_b cells_s cells_w
attribute [local simp] lend_eR al_eR lend_eN adopt_eN new_eN
attribute [local simp] cells_cel noc_i noc_y noc_eN noCelE noCelO noCelL DV.noCel noc_eR
def stBq (v : Int) (ss : List Nat) (k : Nat) : LS :=
 ⟨[(7,.i v),(8,.own 4104 k 0 k),(27,.own 12297 ss.length 0 ss.length),(28,.i ss.length),(29,.i k)],[(4104,((ss.take k).map fun r => ni (Sl 5 r)).map eN),(12297,(ni ss).map .i)]⟩
set_option maxHeartbeats 4000000 in
theorem bqs_loop {ss : List Nat} (hl : ss.length ≤ 5) (v : Int) : ex lf F_impl_BestRounds_W0 (stBq v ss 0) = some (.exit 0,stBq v ss ss.length) := by
 refine loop_count (lf := lf) (L := F_impl_BestRounds_L0) ss.length (fun k => stBq v ss k) (fun k hk => ?_) ?_ (by simp)
 ·have hk' : (k : Int) < ss.length := by omega
  have w1 := wr_succ (k := k) (by omega)
  have hkr : ss[k]? = some ss[k] := List.getElem?_eq_getElem hk
  obtain ⟨a1,_⟩ := at_ni hkr
  have e0 : ((ni ss).map DV.i)[k]? = some (.i (ss[k] : Int)) := by unfold ni; rw [List.getElem?_map,List.getElem?_map,hkr]; rfl
  have a2 : atN ((ni ss).map DV.i) k = some (.i (ss[k] : Int)) := e0
  have nl := ni_len ss
  have C := c_impl_rowOf ss[k]
  have cb : k + 1 ≤ bound := by unfold bound; omega
  have nS := ni_len (Sl 5 ss[k])
  have ft : ((ss.take (k + 1)).map fun r => ni (Sl 5 r)).map eN = ((ss.take k).map fun r => ni (Sl 5 r)).map eN ++ [.sl 1 ((ni (Sl 5 ss[k])).map .i)] := by
   rw [List.take_add_one,hkr,List.map_append,List.map_append]; rfl
  have lt : (((ss.take k).map fun r => ni (Sl 5 r)).map eN).length = k := by simp; omega
  have tkS : List.take (Sl 5 ss[k]).length ((ni (Sl 5 ss[k])).map DV.i) = (ni (Sl 5 ss[k])).map .i := List.take_of_length_le (by simp [nS])
  show ex lf F_impl_BestRounds_L0 (stBq v ss k) = some (.normal,stBq v ss (k + 1))
  unfold stBq
  rw [ft]
  generalize ((ss.take k).map fun r => ni (Sl 5 r)).map eN = F at *
  generalize ss[k] = r at *
  generalize Sl 5 r = q at *
  generalize ni ss = s2 at *
  simp [F_impl_BestRounds_L0,hk,hk',w1,a1,a2,nl,C,cb,nS,tkS,lt,-Int.natCast_add]
 ·show ex lf F_impl_BestRounds_L0 (stBq v ss ss.length) = _
  unfold stBq
  generalize ((ss.take ss.length).map fun r => ni (Sl 5 r)).map eN = F at *
  generalize ni ss = s2 at *
  simp [F_impl_BestRounds_L0]
theorem Sl_five {m r : Nat} (hm : m ≤ 5) (hr : r < 2 ^ m) : Sl 5 r = Sl m r := by
 have key : ∀ (m : _root_.Fin 6) (r : _root_.Fin 32),r.val < 2 ^ m.val → Sl 5 r.val = Sl m.val r.val := by decide +kernel
 have p : 2 ^ m ≤ 2 ^ 5 := Nat.pow_le_pow_right (by omega) hm
 exact key ⟨m,by omega⟩ ⟨r,by omega⟩ hr
theorem swR_lt {us : List T} (h : us.all tOk = true) (hm : us.length ≤ 5) {fee : Int} (hf : 0 ≤ fee) : ∀ (f so : Nat),so < 2 ^ us.length → ∀ r ∈ swR us fee f so,r < 2 ^ us.length
 | 0,_,_ => fun r hr => by simp [swR] at hr
 | f + 1,so,hs => fun r hr => by
  simp only [swR] at hr
  by_cases q : so = 0
  ·rw [if_pos q] at hr; cases hr
  ·rw [if_neg q] at hr
   have e : rbR us fee (f + 1) so = rbst us fee (fun s => (rbR us fee f s).1) so so := by simp only [rbR]; rw [if_neg q]
   have pos := (rbR_nn h hm hf (f + 1) so hs).2 (by omega)
   rcases rbst_spec (us := us) (fee := fee) (v := fun s => (rbR us fee f s).1) (so := so) pos so with ⟨_,b⟩ | ⟨_,⟨b1,b2,b3⟩,_,_⟩
   ·exact absurd (Nat.and_self so) (b so (by omega) (Nat.le_refl _))
   ·rw [← e] at b1 b2 b3
    obtain ⟨p,n1,_,lt⟩ := sub_perm hm hs b3
    rcases List.mem_cons.1 hr with rfl | hr
    ·omega
    ·exact swR_lt h hm hf f _ lt r hr
set_option maxHeartbeats 4000000 in
theorem c_impl_BestRounds (us : List T) (fee : Int) (ha : (us.length : Int) < 1099511627776) :
  call lf n_impl_BestRounds [.sl 0 (us.map e2),.i fee] = some (.tup [.fr 1 (((brL us fee).map ni).map eN),.i (brN us fee)],[]) := by
 rw [call_k lf n_impl_BestRounds _ (F := F_impl_BestRounds) rfl rfl]
 have C1 := c_impl_TestsOk us ha
 have C3 := c_impl_feeOk fee
 unfold brN brL brO
 cases h1 : tsOk us with
 | false => rw [h1] at C1; simp [F_impl_BestRounds,C1]
 | true =>
  rw [h1] at C1
  cases h3 : decide (0 ≤ fee ∧ fee ≤ 20) with
  | false => rw [h3] at C3; simp [F_impl_BestRounds,C1,C3]
  | true =>
   rw [h3] at C3
   have h4 := of_decide_eq_true h3
   have h' := tsOk_iff.1 h1
   have P := c_impl_allOf h1
   have pp := Nat.two_pow_pos us.length
   have hs : 2 ^ us.length - 1 < 2 ^ us.length := by omega
   have sa := Sl_all (m := us.length) (by omega)
   have hl : (Sl us.length (2 ^ us.length - 1)).length = us.length := by rw [sa]; simp
   have p2 : 2 ≤ 2 ^ us.length := by
    have : 2 ^ 1 ≤ 2 ^ us.length := Nat.pow_le_pow_right (by omega) (by omega)
    omega
   have C := c_impl_bestRoundsOf h'.2 (by omega) (fee := fee) ⟨h4.1,by omega⟩ us.length (2 ^ us.length - 1) hs (by omega)
   have e1 : (rbR us fee us.length (2 ^ us.length - 1)).1 = brV us fee := rfl
   have e2' : rwR us fee us.length (2 ^ us.length - 1) = brR us fee := rfl
   rw [e1] at C
   rw [Bool.true_and,if_pos rfl,if_pos rfl]
   have sw := swR_rows us fee us.length (2 ^ us.length - 1)
   rw [e2'] at sw
   have ln := swR_len h'.2 (by omega) h4.1 us.length (2 ^ us.length - 1) hs
   have lt := swR_lt h'.2 (by omega) h4.1 us.length (2 ^ us.length - 1) hs
   have sne : swR us fee us.length (2 ^ us.length - 1) ≠ [] := by
    obtain ⟨f,hf⟩ : ∃ f,us.length = f + 1 := ⟨us.length - 1,by omega⟩
    rw [hf]
    simp only [swR]
    rw [if_neg (by rw [← hf]; omega)]
    simp
   generalize swR us fee us.length (2 ^ us.length - 1) = ss at *
   have rows : (ss.map fun r => ni (Sl 5 r)) = (brR us fee).map ni := by
    rw [sw,List.map_map]
    exact List.map_congr_left fun r hr => by
     show ni (Sl 5 r) = ni (Sl us.length r)
     rw [Sl_five (by omega) (lt r hr)]
   have L := bqs_loop (ss := ss) (by omega) (brV us fee)
   unfold bR at C
   rw [if_neg (by unfold ni; simpa using sne)] at C
   unfold stBq at L
   rw [List.take_length,rows] at L
   simp only [List.take_zero,List.map_nil,Int.natCast_zero] at L
   have nl := ni_len ss
   have tks : List.take ss.length ((ni ss).map DV.i) = (ni ss).map .i := List.take_of_length_le (by simp [nl])
   have lr : (((brR us fee).map ni).map eN).length = ss.length := by rw [← rows]; simp
   have tk : List.take ss.length (((brR us fee).map ni).map eN) = ((brR us fee).map ni).map eN := List.take_of_length_le (by rw [lr]; exact Nat.le_refl _)
   generalize brV us fee = v at *
   generalize ((brR us fee).map ni).map eN = D at *
   generalize 2 ^ us.length - 1 = so at *
   clear sw rows ln lt
   generalize ni ss = s2 at *
   simp [F_impl_BestRounds,C1,C3,P,C,L,nl,tks,lr,tk]
end
section
theorem brL_lenX (us : List T) (fee : Int) : (brL us fee).length ≤ 5 ∧ (brL us fee).flatten.length ≤ 5 := by
 cases h : brO us fee with
 | false => rw [(brN_bad h).2]; simp
 | true =>
  obtain ⟨h1,hf⟩ := brO_iff.1 h
  have h' := tsOk_iff.1 h1
  obtain ⟨G,_,_⟩ := br_all h1 hf.1
  have e1 : brL us fee = brR us fee := by unfold brL; rw [h]; rfl
  rw [e1]
  have := flat_ge9 G.ne
  have := gok_len G
  omega
end
section
attribute [-simp] DV.cells
attribute [local simp] sliceD cells_st cells_sl cells_i cells_y cells_b cells_s cells_w
attribute [local simp] lend_eR al_eR lend_eN adopt_eN new_eN adopt_e2 new_e2
theorem lend_ints_ (ts : List Int) : lendL (ts.map .i) = ts.map .i := lend_i ts
def IBestRounds_0 : LC := (.region false [⟨some 4,.mv,[.c (.b false)],none⟩] [4])
def IBestRounds_1 : LC := (.region false [⟨some 5,.mv,[.c (.i 1048576)],none⟩] [])
def IBestRounds_2 : LC := (.region false [⟨some 16,.mv,[.t 0],none⟩,
      ⟨some 17,.mv,[.t 5],none⟩,
      ⟨some 18,.call n_laws_szTestS 9216,[.t 16,.t 17],none⟩,
      ⟨some 5,.mv,[.t 18],none⟩] [16,17,18])
def IBestRounds_3 : LC := (.seq
       (.region false [⟨some 19,.mv,[.t 5],none⟩,
        ⟨some 20,.bin .lss,[.t 19,.c (.i 0)],none⟩] [5,19])
       (.cond (.t 20) [20]
        (.seq
         (.region false [⟨some 4,.mv,[.c (.b true)],none⟩] [0,1])
         .ret)
        .skip))
def IBestRounds_4 : LC := (.region false [⟨some 22,.mv,[.t 0],none⟩,
        ⟨some 23,.call n_laws_toTestS 11776,[.t 22],none⟩,
        ⟨some 24,.mv,[.t 1],none⟩,
        ⟨some 25,.call n_spec_BestRounds 12800,[.t 23,.t 24],none⟩,
        ⟨some 21,.mv,[.t 25],none⟩,
        ⟨some 26,.ext 0,[.t 21],none⟩,
        ⟨some 27,.ext 1,[.t 21],none⟩,
        ⟨some 6,.mv,[.t 26],none⟩,
        ⟨some 7,.mv,[.t 27],none⟩] [21,22,23,24,25,26,27])
def IBestRounds_5 : LC := (.region false [⟨some 28,.mv,[.t 0],none⟩,
         ⟨some 29,.call n_laws_toTestS 14848,[.t 28],none⟩,
         ⟨some 8,.mv,[.t 29],none⟩] [28,29])
def IBestRounds_6 : LC := (.region false [⟨some 31,.mv,[.t 8],none⟩,
          ⟨some 32,.mv,[.t 1],none⟩,
          ⟨some 33,.call n_impl_BestRounds 16896,[.t 31,.t 32],none⟩,
          ⟨some 30,.mv,[.t 33],none⟩,
          ⟨some 34,.ext 0,[.t 30],none⟩,
          ⟨some 35,.ext 1,[.t 30],none⟩,
          ⟨some 9,.mv,[.t 34],none⟩,
          ⟨some 10,.mv,[.t 35],none⟩] [30,31,32,33,34,35])
def IBestRounds_7 : LC := (.seq
           (.region false [⟨some 36,.mv,[.t 9],none⟩,
            ⟨some 37,.mv,[.t 6],none⟩,
            ⟨some 38,.call n_laws_eqIntSS 19456,[.t 36,.t 37],none⟩,
            ⟨some 39,.un .not,[.t 38],none⟩,
            ⟨some 40,.mv,[.t 39],none⟩,
            ⟨some 41,.mv,[.t 10],some (40,false)⟩,
            ⟨some 42,.mv,[.t 7],some (40,false)⟩,
            ⟨some 43,.bin .neq,[.t 41,.t 42],some (40,false)⟩,
            ⟨some 44,.pick,[.t 40,.c (.b true),.t 43],none⟩] [36,37,38,39,40,41,42,43])
           (.cond (.t 44) [44]
            (.seq
             (.region false [⟨some 4,.mv,[.c (.b false)],none⟩] [0,1,6,7,8,9,10])
             .ret)
            .skip))
def IBestRounds_8 : LC := (.seq
            (.region false [⟨some 45,.mv,[.t 8],none⟩,
             ⟨some 46,.mv,[.t 0],none⟩,
             ⟨some 47,.call n_laws_toTestS 24064,[.t 46],none⟩,
             ⟨some 48,.call n_laws_eqTestS 24576,[.t 45,.t 47],none⟩,
             ⟨some 49,.un .not,[.t 48],none⟩] [45,46,47,48])
            (.cond (.t 49) [49]
             (.seq
              (.region false [⟨some 4,.mv,[.c (.b false)],none⟩] [0,1,6,7,8,9,10])
              .ret)
             .skip))
def IBestRounds_9 : LC := (.region false [⟨some 11,.mv,[.c (.i 1)],none⟩] [])
def IBestRounds_10 : LC := (.region false [⟨some 50,.mv,[.t 8],none⟩,
              ⟨some 51,.mv,[.t 11],none⟩,
              ⟨some 52,.call n_laws_markTestS 26628,[.t 50,.t 51],none⟩,
              ⟨some 11,.mv,[.t 52],none⟩] [8,50,51,52])
def IBestRounds_11 : LC := (.seq
               (.region false [⟨some 53,.mv,[.t 11],none⟩,
                ⟨some 54,.bin .lss,[.t 53,.c (.i 0)],none⟩,
                ⟨some 55,.mv,[.t 54],none⟩,
                ⟨some 56,.mv,[.t 9],some (55,false)⟩,
                ⟨some 57,.mv,[.t 6],some (55,false)⟩,
                ⟨some 58,.call n_laws_eqIntSS 29696,[.t 56,.t 57],some (55,false)⟩,
                ⟨some 59,.un .not,[.t 58],some (55,false)⟩,
                ⟨some 60,.pick,[.t 55,.c (.b true),.t 59],none⟩,
                ⟨some 61,.mv,[.t 60],none⟩,
                ⟨some 62,.mv,[.t 10],some (61,false)⟩,
                ⟨some 63,.mv,[.t 7],some (61,false)⟩,
                ⟨some 64,.bin .neq,[.t 62,.t 63],some (61,false)⟩,
                ⟨some 65,.pick,[.t 61,.c (.b true),.t 64],none⟩] [10,11,53,54,55,56,57,58,59,60,61,62,63,64])
               (.cond (.t 65) [65]
                (.seq
                 (.region false [⟨some 4,.mv,[.c (.b false)],none⟩] [0,1,6,7,9])
                 .ret)
                .skip))
def IBestRounds_12 : LC := (.region false [⟨some 12,.mv,[.c (.i 1)],none⟩] [])
def IBestRounds_13 : LC := (.region false [⟨some 66,.mv,[.t 9],none⟩,
                 ⟨some 67,.mv,[.t 12],none⟩,
                 ⟨some 68,.call n_laws_markIntSS 34820,[.t 66,.t 67],none⟩,
                 ⟨some 12,.mv,[.t 68],none⟩] [66,67,68])
def IBestRounds_14 : LC := (.region false [⟨some 13,.mv,[.c (.i 1)],none⟩] [])
def IBestRounds_15 : LC := (.region false [⟨some 69,.mv,[.t 9],none⟩,
                   ⟨some 70,.mv,[.t 13],none⟩,
                   ⟨some 71,.call n_laws_heldIntSS 36352,[.t 69,.t 70],none⟩,
                   ⟨some 13,.mv,[.t 71],none⟩] [69,70,71])
def IBestRounds_16 : LC := (.seq
                    (.region false [⟨some 72,.mv,[.t 13],none⟩,
                     ⟨some 73,.bin .lss,[.t 72,.c (.i 0)],none⟩] [72])
                    (.cond (.t 73) [73]
                     (.seq
                      (.region false [⟨some 4,.mv,[.c (.b false)],none⟩] [0,1,6,7,9,12,13])
                      .ret)
                     .skip))
def IBestRounds_17 : LC := (.seq
                     (.region false [⟨some 74,.mv,[.t 13],none⟩,
                      ⟨some 75,.mv,[.t 12],none⟩,
                      ⟨some 76,.bin .neq,[.t 74,.t 75],none⟩] [13,74,75])
                     (.cond (.t 76) [76]
                      (.seq
                       (.region false [⟨some 4,.mv,[.c (.b false)],none⟩] [0,1,6,7,9,12])
                       .ret)
                      .skip))
def IBestRounds_18 : LC := (.region false [⟨some 78,.mv,[.t 0],none⟩,
                      ⟨some 79,.call n_laws_toTestS 40448,[.t 78],none⟩,
                      ⟨some 80,.mv,[.t 1],none⟩,
                      ⟨some 81,.call n_impl_BestRounds 41472,[.t 79,.t 80],none⟩,
                      ⟨some 77,.mv,[.t 81],none⟩,
                      ⟨some 82,.ext 0,[.t 77],none⟩,
                      ⟨some 83,.ext 1,[.t 77],none⟩,
                      ⟨some 14,.mv,[.t 82],none⟩,
                      ⟨some 15,.mv,[.t 83],none⟩] [0,1,77,78,79,80,81,82,83])
def IBestRounds_19 : LC := (.seq
                       (.region false [⟨some 84,.mv,[.t 14],none⟩,
                        ⟨some 85,.mv,[.t 6],none⟩,
                        ⟨some 86,.call n_laws_eqIntSS 44032,[.t 84,.t 85],none⟩,
                        ⟨some 87,.un .not,[.t 86],none⟩,
                        ⟨some 88,.mv,[.t 87],none⟩,
                        ⟨some 89,.mv,[.t 15],some (88,false)⟩,
                        ⟨some 90,.mv,[.t 7],some (88,false)⟩,
                        ⟨some 91,.bin .neq,[.t 89,.t 90],some (88,false)⟩,
                        ⟨some 92,.pick,[.t 88,.c (.b true),.t 91],none⟩] [6,7,14,15,84,85,86,87,88,89,90,91])
                       (.cond (.t 92) [92]
                        (.seq
                         (.region false [⟨some 4,.mv,[.c (.b false)],none⟩] [9,12])
                         .ret)
                        .skip))
def IBestRounds_20 : LC := (.region false [⟨some 13,.mv,[.c (.i 1)],none⟩] [])
def IBestRounds_21 : LC := (.region false [⟨some 93,.mv,[.t 9],none⟩,
                         ⟨some 94,.mv,[.t 13],none⟩,
                         ⟨some 95,.call n_laws_heldIntSS 48640,[.t 93,.t 94],none⟩,
                         ⟨some 13,.mv,[.t 95],none⟩] [9,93,94,95])
def IBestRounds_22 : LC := (.seq
                          (.region false [⟨some 96,.mv,[.t 13],none⟩,
                           ⟨some 97,.bin .lss,[.t 96,.c (.i 0)],none⟩] [96])
                          (.cond (.t 97) [97]
                           (.seq
                            (.region false [⟨some 4,.mv,[.c (.b false)],none⟩] [12,13])
                            .ret)
                           .skip))
def IBestRounds_23 : LC := (.seq
                           (.region false [⟨some 98,.mv,[.t 13],none⟩,
                            ⟨some 99,.mv,[.t 12],none⟩,
                            ⟨some 100,.bin .neq,[.t 98,.t 99],none⟩] [12,13,98,99])
                           (.cond (.t 100) [100]
                            (.seq
                             (.region false [⟨some 4,.mv,[.c (.b false)],none⟩] [])
                             .ret)
                            .skip))
def IBestRounds_24 : LC := (.region false [⟨some 4,.mv,[.c (.b true)],none⟩] [])
def RBestRounds_25 : LC := .ret
def RBestRounds_24 : LC := .seq IBestRounds_24 RBestRounds_25
def RBestRounds_23 : LC := .seq IBestRounds_23 RBestRounds_24
def RBestRounds_22 : LC := .seq IBestRounds_22 RBestRounds_23
def RBestRounds_21 : LC := .seq IBestRounds_21 RBestRounds_22
def RBestRounds_20 : LC := .seq IBestRounds_20 RBestRounds_21
def RBestRounds_19 : LC := .seq IBestRounds_19 RBestRounds_20
def RBestRounds_18 : LC := .seq IBestRounds_18 RBestRounds_19
def RBestRounds_17 : LC := .seq IBestRounds_17 RBestRounds_18
def RBestRounds_16 : LC := .seq IBestRounds_16 RBestRounds_17
def RBestRounds_15 : LC := .seq IBestRounds_15 RBestRounds_16
def RBestRounds_14 : LC := .seq IBestRounds_14 RBestRounds_15
def RBestRounds_13 : LC := .seq IBestRounds_13 RBestRounds_14
def RBestRounds_12 : LC := .seq IBestRounds_12 RBestRounds_13
def RBestRounds_11 : LC := .seq IBestRounds_11 RBestRounds_12
def RBestRounds_10 : LC := .seq IBestRounds_10 RBestRounds_11
def RBestRounds_9 : LC := .seq IBestRounds_9 RBestRounds_10
def RBestRounds_8 : LC := .seq IBestRounds_8 RBestRounds_9
def RBestRounds_7 : LC := .seq IBestRounds_7 RBestRounds_8
def RBestRounds_6 : LC := .seq IBestRounds_6 RBestRounds_7
def RBestRounds_5 : LC := .seq IBestRounds_5 RBestRounds_6
def RBestRounds_4 : LC := .seq IBestRounds_4 RBestRounds_5
def RBestRounds_3 : LC := .seq IBestRounds_3 RBestRounds_4
def RBestRounds_2 : LC := .seq IBestRounds_2 RBestRounds_3
def RBestRounds_1 : LC := .seq IBestRounds_1 RBestRounds_2
def RBestRounds_0 : LC := .seq IBestRounds_0 RBestRounds_1
theorem body_BestRounds : F_laws_FnExactBestRounds.body = RBestRounds_0 := rfl
set_option maxHeartbeats 4000000 in
theorem sBestRounds_0 {us : List T} {fee v : Int} {G : List (List Int)} (hu : us.length ≤ 1048576) (hG : G.length ≤ 100) (hT : totR G ≤ 100) (hR : ∀ r ∈ G,(r.length : Int) ≤ 1048576) (C1 : call lf n_impl_BestRounds [.sl 0 (us.map e2),.i fee] = some (.tup [.fr 1 (G.map eN),.i v],[])) (C2 : call lf n_spec_BestRounds [.sl 0 (us.map e2),.i fee] = some (.tup [.fr 1 (G.map eN),.i v],[])) : ∃ S1,ex lf IBestRounds_0 ⟨[(0,.sl 0 (us.map e2)),(1,.i (fee))],[]⟩ = some (.normal,S1) ∧ ∀ g ∈ ([] : List (Nat × DV)),made S1 g := by
 have S0 := c_szTestS us 1048576 (by omega) (by omega) (by omega)
 have n1 : ¬ (1048576 : Int) < us.length := by omega
 have n2 : ¬ (1048576 : Int) - us.length < 0 := by omega
 have A0 := c_toTestS us (by omega)
 have Q0 := c_eqTestS_self us (by omega)
 have Q1 := c_eqIntSS_self G (by omega) hR
 have HH := c_heldIntSS G 1 (by omega) (by omega) (by omega) (by omega)
 have n3 : ¬ 1 + 2 * (us.length : Int) < 0 := by omega
 have n4 : ¬ 1 + (totR G : Int) < 0 := by omega
 have tk : List.take G.length (G.map eN) = G.map eN := List.take_of_length_le (by simp)
 have tk2 : List.take us.length (us.map e2) = us.map e2 := List.take_of_length_le (by simp)
 simp (config := { maxSteps := 2000000 }) [IBestRounds_0,made,settle,elems,wholeP,DV.allNew,DV.adopt,adoptP,newP,S0,n1,n2,A0,Q0,Q1,HH,n3,n4,tk,tk2,C1,C2]
set_option maxHeartbeats 4000000 in
theorem sBestRounds_1 {us : List T} {fee v : Int} {G : List (List Int)} (hu : us.length ≤ 1048576) (hG : G.length ≤ 100) (hT : totR G ≤ 100) (hR : ∀ r ∈ G,(r.length : Int) ≤ 1048576) (C1 : call lf n_impl_BestRounds [.sl 0 (us.map e2),.i fee] = some (.tup [.fr 1 (G.map eN),.i v],[])) (C2 : call lf n_spec_BestRounds [.sl 0 (us.map e2),.i fee] = some (.tup [.fr 1 (G.map eN),.i v],[])) : ∃ S1,ex lf IBestRounds_1 ⟨[(0,.sl 0 (us.map e2)),(1,.i (fee))],[]⟩ = some (.normal,S1) ∧ ∀ g ∈ ([(5,.i (1048576))] : List (Nat × DV)),made S1 g := by
 have S0 := c_szTestS us 1048576 (by omega) (by omega) (by omega)
 have n1 : ¬ (1048576 : Int) < us.length := by omega
 have n2 : ¬ (1048576 : Int) - us.length < 0 := by omega
 have A0 := c_toTestS us (by omega)
 have Q0 := c_eqTestS_self us (by omega)
 have Q1 := c_eqIntSS_self G (by omega) hR
 have HH := c_heldIntSS G 1 (by omega) (by omega) (by omega) (by omega)
 have n3 : ¬ 1 + 2 * (us.length : Int) < 0 := by omega
 have n4 : ¬ 1 + (totR G : Int) < 0 := by omega
 have tk : List.take G.length (G.map eN) = G.map eN := List.take_of_length_le (by simp)
 have tk2 : List.take us.length (us.map e2) = us.map e2 := List.take_of_length_le (by simp)
 simp (config := { maxSteps := 2000000 }) [IBestRounds_1,made,settle,elems,wholeP,DV.allNew,DV.adopt,adoptP,newP,S0,n1,n2,A0,Q0,Q1,HH,n3,n4,tk,tk2,C1,C2]
set_option maxHeartbeats 4000000 in
theorem sBestRounds_2 {us : List T} {fee v : Int} {G : List (List Int)} (hu : us.length ≤ 1048576) (hG : G.length ≤ 100) (hT : totR G ≤ 100) (hR : ∀ r ∈ G,(r.length : Int) ≤ 1048576) (C1 : call lf n_impl_BestRounds [.sl 0 (us.map e2),.i fee] = some (.tup [.fr 1 (G.map eN),.i v],[])) (C2 : call lf n_spec_BestRounds [.sl 0 (us.map e2),.i fee] = some (.tup [.fr 1 (G.map eN),.i v],[])) : ∃ S1,ex lf IBestRounds_2 ⟨[(0,.sl 0 (us.map e2)),(1,.i (fee)),(5,.i (1048576))],[]⟩ = some (.normal,S1) ∧ ∀ g ∈ ([(5,.i (1048576 - (us.length : Int)))] : List (Nat × DV)),made S1 g := by
 have S0 := c_szTestS us 1048576 (by omega) (by omega) (by omega)
 have n1 : ¬ (1048576 : Int) < us.length := by omega
 have n2 : ¬ (1048576 : Int) - us.length < 0 := by omega
 have A0 := c_toTestS us (by omega)
 have Q0 := c_eqTestS_self us (by omega)
 have Q1 := c_eqIntSS_self G (by omega) hR
 have HH := c_heldIntSS G 1 (by omega) (by omega) (by omega) (by omega)
 have n3 : ¬ 1 + 2 * (us.length : Int) < 0 := by omega
 have n4 : ¬ 1 + (totR G : Int) < 0 := by omega
 have tk : List.take G.length (G.map eN) = G.map eN := List.take_of_length_le (by simp)
 have tk2 : List.take us.length (us.map e2) = us.map e2 := List.take_of_length_le (by simp)
 simp (config := { maxSteps := 2000000 }) [IBestRounds_2,made,settle,elems,wholeP,DV.allNew,DV.adopt,adoptP,newP,S0,n1,n2,A0,Q0,Q1,HH,n3,n4,tk,tk2,C1,C2]
set_option maxHeartbeats 4000000 in
theorem sBestRounds_3 {us : List T} {fee v : Int} {G : List (List Int)} (hu : us.length ≤ 1048576) (hG : G.length ≤ 100) (hT : totR G ≤ 100) (hR : ∀ r ∈ G,(r.length : Int) ≤ 1048576) (C1 : call lf n_impl_BestRounds [.sl 0 (us.map e2),.i fee] = some (.tup [.fr 1 (G.map eN),.i v],[])) (C2 : call lf n_spec_BestRounds [.sl 0 (us.map e2),.i fee] = some (.tup [.fr 1 (G.map eN),.i v],[])) : ∃ S1,ex lf IBestRounds_3 ⟨[(0,.sl 0 (us.map e2)),(1,.i (fee)),(5,.i (1048576 - (us.length : Int)))],[]⟩ = some (.normal,S1) ∧ ∀ g ∈ ([] : List (Nat × DV)),made S1 g := by
 have S0 := c_szTestS us 1048576 (by omega) (by omega) (by omega)
 have n1 : ¬ (1048576 : Int) < us.length := by omega
 have n2 : ¬ (1048576 : Int) - us.length < 0 := by omega
 have A0 := c_toTestS us (by omega)
 have Q0 := c_eqTestS_self us (by omega)
 have Q1 := c_eqIntSS_self G (by omega) hR
 have HH := c_heldIntSS G 1 (by omega) (by omega) (by omega) (by omega)
 have n3 : ¬ 1 + 2 * (us.length : Int) < 0 := by omega
 have n4 : ¬ 1 + (totR G : Int) < 0 := by omega
 have tk : List.take G.length (G.map eN) = G.map eN := List.take_of_length_le (by simp)
 have tk2 : List.take us.length (us.map e2) = us.map e2 := List.take_of_length_le (by simp)
 simp (config := { maxSteps := 2000000 }) [IBestRounds_3,made,settle,elems,wholeP,DV.allNew,DV.adopt,adoptP,newP,S0,n1,n2,A0,Q0,Q1,HH,n3,n4,tk,tk2,C1,C2]
set_option maxHeartbeats 4000000 in
theorem sBestRounds_4 {us : List T} {fee v : Int} {G : List (List Int)} (hu : us.length ≤ 1048576) (hG : G.length ≤ 100) (hT : totR G ≤ 100) (hR : ∀ r ∈ G,(r.length : Int) ≤ 1048576) (C1 : call lf n_impl_BestRounds [.sl 0 (us.map e2),.i fee] = some (.tup [.fr 1 (G.map eN),.i v],[])) (C2 : call lf n_spec_BestRounds [.sl 0 (us.map e2),.i fee] = some (.tup [.fr 1 (G.map eN),.i v],[])) : ∃ S1,ex lf IBestRounds_4 ⟨[(0,.sl 0 (us.map e2)),(1,.i (fee))],[]⟩ = some (.normal,S1) ∧ ∀ g ∈ ([(6,.sl 1 (G.map eN)),(7,.i (v))] : List (Nat × DV)),made S1 g := by
 have S0 := c_szTestS us 1048576 (by omega) (by omega) (by omega)
 have n1 : ¬ (1048576 : Int) < us.length := by omega
 have n2 : ¬ (1048576 : Int) - us.length < 0 := by omega
 have A0 := c_toTestS us (by omega)
 have Q0 := c_eqTestS_self us (by omega)
 have Q1 := c_eqIntSS_self G (by omega) hR
 have HH := c_heldIntSS G 1 (by omega) (by omega) (by omega) (by omega)
 have n3 : ¬ 1 + 2 * (us.length : Int) < 0 := by omega
 have n4 : ¬ 1 + (totR G : Int) < 0 := by omega
 have tk : List.take G.length (G.map eN) = G.map eN := List.take_of_length_le (by simp)
 have tk2 : List.take us.length (us.map e2) = us.map e2 := List.take_of_length_le (by simp)
 simp (config := { maxSteps := 2000000 }) [IBestRounds_4,made,settle,elems,wholeP,DV.allNew,DV.adopt,adoptP,newP,S0,n1,n2,A0,Q0,Q1,HH,n3,n4,tk,tk2,C1,C2]
set_option maxHeartbeats 4000000 in
theorem sBestRounds_5 {us : List T} {fee v : Int} {G : List (List Int)} (hu : us.length ≤ 1048576) (hG : G.length ≤ 100) (hT : totR G ≤ 100) (hR : ∀ r ∈ G,(r.length : Int) ≤ 1048576) (C1 : call lf n_impl_BestRounds [.sl 0 (us.map e2),.i fee] = some (.tup [.fr 1 (G.map eN),.i v],[])) (C2 : call lf n_spec_BestRounds [.sl 0 (us.map e2),.i fee] = some (.tup [.fr 1 (G.map eN),.i v],[])) : ∃ S1,ex lf IBestRounds_5 ⟨[(0,.sl 0 (us.map e2)),(1,.i (fee)),(6,.sl 0 (G.map eR)),(7,.i (v))],[]⟩ = some (.normal,S1) ∧ ∀ g ∈ ([(8,.sl 1 (us.map e2))] : List (Nat × DV)),made S1 g := by
 have S0 := c_szTestS us 1048576 (by omega) (by omega) (by omega)
 have n1 : ¬ (1048576 : Int) < us.length := by omega
 have n2 : ¬ (1048576 : Int) - us.length < 0 := by omega
 have A0 := c_toTestS us (by omega)
 have Q0 := c_eqTestS_self us (by omega)
 have Q1 := c_eqIntSS_self G (by omega) hR
 have HH := c_heldIntSS G 1 (by omega) (by omega) (by omega) (by omega)
 have n3 : ¬ 1 + 2 * (us.length : Int) < 0 := by omega
 have n4 : ¬ 1 + (totR G : Int) < 0 := by omega
 have tk : List.take G.length (G.map eN) = G.map eN := List.take_of_length_le (by simp)
 have tk2 : List.take us.length (us.map e2) = us.map e2 := List.take_of_length_le (by simp)
 simp (config := { maxSteps := 2000000 }) [IBestRounds_5,made,settle,elems,wholeP,DV.allNew,DV.adopt,adoptP,newP,S0,n1,n2,A0,Q0,Q1,HH,n3,n4,tk,tk2,C1,C2]
set_option maxHeartbeats 4000000 in
theorem sBestRounds_6 {us : List T} {fee v : Int} {G : List (List Int)} (hu : us.length ≤ 1048576) (hG : G.length ≤ 100) (hT : totR G ≤ 100) (hR : ∀ r ∈ G,(r.length : Int) ≤ 1048576) (C1 : call lf n_impl_BestRounds [.sl 0 (us.map e2),.i fee] = some (.tup [.fr 1 (G.map eN),.i v],[])) (C2 : call lf n_spec_BestRounds [.sl 0 (us.map e2),.i fee] = some (.tup [.fr 1 (G.map eN),.i v],[])) : ∃ S1,ex lf IBestRounds_6 ⟨[(0,.sl 0 (us.map e2)),(1,.i (fee)),(6,.sl 0 (G.map eR)),(7,.i (v)),(8,.sl 0 (us.map e2))],[]⟩ = some (.normal,S1) ∧ ∀ g ∈ ([(9,.sl 1 (G.map eN)),(10,.i (v))] : List (Nat × DV)),made S1 g := by
 have S0 := c_szTestS us 1048576 (by omega) (by omega) (by omega)
 have n1 : ¬ (1048576 : Int) < us.length := by omega
 have n2 : ¬ (1048576 : Int) - us.length < 0 := by omega
 have A0 := c_toTestS us (by omega)
 have Q0 := c_eqTestS_self us (by omega)
 have Q1 := c_eqIntSS_self G (by omega) hR
 have HH := c_heldIntSS G 1 (by omega) (by omega) (by omega) (by omega)
 have n3 : ¬ 1 + 2 * (us.length : Int) < 0 := by omega
 have n4 : ¬ 1 + (totR G : Int) < 0 := by omega
 have tk : List.take G.length (G.map eN) = G.map eN := List.take_of_length_le (by simp)
 have tk2 : List.take us.length (us.map e2) = us.map e2 := List.take_of_length_le (by simp)
 simp (config := { maxSteps := 2000000 }) [IBestRounds_6,made,settle,elems,wholeP,DV.allNew,DV.adopt,adoptP,newP,S0,n1,n2,A0,Q0,Q1,HH,n3,n4,tk,tk2,C1,C2]
set_option maxHeartbeats 4000000 in
theorem sBestRounds_7 {us : List T} {fee v : Int} {G : List (List Int)} (hu : us.length ≤ 1048576) (hG : G.length ≤ 100) (hT : totR G ≤ 100) (hR : ∀ r ∈ G,(r.length : Int) ≤ 1048576) (C1 : call lf n_impl_BestRounds [.sl 0 (us.map e2),.i fee] = some (.tup [.fr 1 (G.map eN),.i v],[])) (C2 : call lf n_spec_BestRounds [.sl 0 (us.map e2),.i fee] = some (.tup [.fr 1 (G.map eN),.i v],[])) : ∃ S1,ex lf IBestRounds_7 ⟨[(0,.sl 0 (us.map e2)),(1,.i (fee)),(6,.sl 0 (G.map eR)),(7,.i (v)),(8,.sl 0 (us.map e2)),(9,.sl 0 (G.map eR)),(10,.i (v))],[]⟩ = some (.normal,S1) ∧ ∀ g ∈ ([] : List (Nat × DV)),made S1 g := by
 have S0 := c_szTestS us 1048576 (by omega) (by omega) (by omega)
 have n1 : ¬ (1048576 : Int) < us.length := by omega
 have n2 : ¬ (1048576 : Int) - us.length < 0 := by omega
 have A0 := c_toTestS us (by omega)
 have Q0 := c_eqTestS_self us (by omega)
 have Q1 := c_eqIntSS_self G (by omega) hR
 have HH := c_heldIntSS G 1 (by omega) (by omega) (by omega) (by omega)
 have n3 : ¬ 1 + 2 * (us.length : Int) < 0 := by omega
 have n4 : ¬ 1 + (totR G : Int) < 0 := by omega
 have tk : List.take G.length (G.map eN) = G.map eN := List.take_of_length_le (by simp)
 have tk2 : List.take us.length (us.map e2) = us.map e2 := List.take_of_length_le (by simp)
 simp (config := { maxSteps := 2000000 }) [IBestRounds_7,made,settle,elems,wholeP,DV.allNew,DV.adopt,adoptP,newP,S0,n1,n2,A0,Q0,Q1,HH,n3,n4,tk,tk2,C1,C2]
set_option maxHeartbeats 4000000 in
theorem sBestRounds_8 {us : List T} {fee v : Int} {G : List (List Int)} (hu : us.length ≤ 1048576) (hG : G.length ≤ 100) (hT : totR G ≤ 100) (hR : ∀ r ∈ G,(r.length : Int) ≤ 1048576) (C1 : call lf n_impl_BestRounds [.sl 0 (us.map e2),.i fee] = some (.tup [.fr 1 (G.map eN),.i v],[])) (C2 : call lf n_spec_BestRounds [.sl 0 (us.map e2),.i fee] = some (.tup [.fr 1 (G.map eN),.i v],[])) : ∃ S1,ex lf IBestRounds_8 ⟨[(0,.sl 0 (us.map e2)),(1,.i (fee)),(6,.sl 0 (G.map eR)),(7,.i (v)),(8,.sl 0 (us.map e2)),(9,.sl 0 (G.map eR)),(10,.i (v))],[]⟩ = some (.normal,S1) ∧ ∀ g ∈ ([] : List (Nat × DV)),made S1 g := by
 have S0 := c_szTestS us 1048576 (by omega) (by omega) (by omega)
 have n1 : ¬ (1048576 : Int) < us.length := by omega
 have n2 : ¬ (1048576 : Int) - us.length < 0 := by omega
 have A0 := c_toTestS us (by omega)
 have Q0 := c_eqTestS_self us (by omega)
 have Q1 := c_eqIntSS_self G (by omega) hR
 have HH := c_heldIntSS G 1 (by omega) (by omega) (by omega) (by omega)
 have n3 : ¬ 1 + 2 * (us.length : Int) < 0 := by omega
 have n4 : ¬ 1 + (totR G : Int) < 0 := by omega
 have tk : List.take G.length (G.map eN) = G.map eN := List.take_of_length_le (by simp)
 have tk2 : List.take us.length (us.map e2) = us.map e2 := List.take_of_length_le (by simp)
 simp (config := { maxSteps := 2000000 }) [IBestRounds_8,made,settle,elems,wholeP,DV.allNew,DV.adopt,adoptP,newP,S0,n1,n2,A0,Q0,Q1,HH,n3,n4,tk,tk2,C1,C2]
set_option maxHeartbeats 4000000 in
theorem sBestRounds_9 {us : List T} {fee v : Int} {G : List (List Int)} (hu : us.length ≤ 1048576) (hG : G.length ≤ 100) (hT : totR G ≤ 100) (hR : ∀ r ∈ G,(r.length : Int) ≤ 1048576) (C1 : call lf n_impl_BestRounds [.sl 0 (us.map e2),.i fee] = some (.tup [.fr 1 (G.map eN),.i v],[])) (C2 : call lf n_spec_BestRounds [.sl 0 (us.map e2),.i fee] = some (.tup [.fr 1 (G.map eN),.i v],[])) : ∃ S1,ex lf IBestRounds_9 ⟨[(0,.sl 0 (us.map e2)),(1,.i (fee)),(6,.sl 0 (G.map eR)),(7,.i (v)),(8,.sl 0 (us.map e2)),(9,.sl 0 (G.map eR)),(10,.i (v))],[]⟩ = some (.normal,S1) ∧ ∀ g ∈ ([(11,.i (1))] : List (Nat × DV)),made S1 g := by
 have S0 := c_szTestS us 1048576 (by omega) (by omega) (by omega)
 have n1 : ¬ (1048576 : Int) < us.length := by omega
 have n2 : ¬ (1048576 : Int) - us.length < 0 := by omega
 have A0 := c_toTestS us (by omega)
 have Q0 := c_eqTestS_self us (by omega)
 have Q1 := c_eqIntSS_self G (by omega) hR
 have HH := c_heldIntSS G 1 (by omega) (by omega) (by omega) (by omega)
 have n3 : ¬ 1 + 2 * (us.length : Int) < 0 := by omega
 have n4 : ¬ 1 + (totR G : Int) < 0 := by omega
 have tk : List.take G.length (G.map eN) = G.map eN := List.take_of_length_le (by simp)
 have tk2 : List.take us.length (us.map e2) = us.map e2 := List.take_of_length_le (by simp)
 simp (config := { maxSteps := 2000000 }) [IBestRounds_9,made,settle,elems,wholeP,DV.allNew,DV.adopt,adoptP,newP,S0,n1,n2,A0,Q0,Q1,HH,n3,n4,tk,tk2,C1,C2]
set_option maxHeartbeats 4000000 in
theorem sBestRounds_11 {us : List T} {fee v : Int} {G : List (List Int)} (hu : us.length ≤ 1048576) (hG : G.length ≤ 100) (hT : totR G ≤ 100) (hR : ∀ r ∈ G,(r.length : Int) ≤ 1048576) (C1 : call lf n_impl_BestRounds [.sl 0 (us.map e2),.i fee] = some (.tup [.fr 1 (G.map eN),.i v],[])) (C2 : call lf n_spec_BestRounds [.sl 0 (us.map e2),.i fee] = some (.tup [.fr 1 (G.map eN),.i v],[])) : ∃ S1,ex lf IBestRounds_11 ⟨[(0,.sl 0 (us.map e2)),(1,.i (fee)),(6,.sl 0 (G.map eR)),(7,.i (v)),(9,.sl 0 (G.map eR)),(10,.i (v)),(11,.i (1 + 2 * (us.length : Int)))],[]⟩ = some (.normal,S1) ∧ ∀ g ∈ ([] : List (Nat × DV)),made S1 g := by
 have S0 := c_szTestS us 1048576 (by omega) (by omega) (by omega)
 have n1 : ¬ (1048576 : Int) < us.length := by omega
 have n2 : ¬ (1048576 : Int) - us.length < 0 := by omega
 have A0 := c_toTestS us (by omega)
 have Q0 := c_eqTestS_self us (by omega)
 have Q1 := c_eqIntSS_self G (by omega) hR
 have HH := c_heldIntSS G 1 (by omega) (by omega) (by omega) (by omega)
 have n3 : ¬ 1 + 2 * (us.length : Int) < 0 := by omega
 have n4 : ¬ 1 + (totR G : Int) < 0 := by omega
 have tk : List.take G.length (G.map eN) = G.map eN := List.take_of_length_le (by simp)
 have tk2 : List.take us.length (us.map e2) = us.map e2 := List.take_of_length_le (by simp)
 simp (config := { maxSteps := 2000000 }) [IBestRounds_11,made,settle,elems,wholeP,DV.allNew,DV.adopt,adoptP,newP,S0,n1,n2,A0,Q0,Q1,HH,n3,n4,tk,tk2,C1,C2]
set_option maxHeartbeats 4000000 in
theorem sBestRounds_12 {us : List T} {fee v : Int} {G : List (List Int)} (hu : us.length ≤ 1048576) (hG : G.length ≤ 100) (hT : totR G ≤ 100) (hR : ∀ r ∈ G,(r.length : Int) ≤ 1048576) (C1 : call lf n_impl_BestRounds [.sl 0 (us.map e2),.i fee] = some (.tup [.fr 1 (G.map eN),.i v],[])) (C2 : call lf n_spec_BestRounds [.sl 0 (us.map e2),.i fee] = some (.tup [.fr 1 (G.map eN),.i v],[])) : ∃ S1,ex lf IBestRounds_12 ⟨[(0,.sl 0 (us.map e2)),(1,.i (fee)),(6,.sl 0 (G.map eR)),(7,.i (v)),(9,.sl 0 (G.map eR))],[]⟩ = some (.normal,S1) ∧ ∀ g ∈ ([(12,.i (1))] : List (Nat × DV)),made S1 g := by
 have S0 := c_szTestS us 1048576 (by omega) (by omega) (by omega)
 have n1 : ¬ (1048576 : Int) < us.length := by omega
 have n2 : ¬ (1048576 : Int) - us.length < 0 := by omega
 have A0 := c_toTestS us (by omega)
 have Q0 := c_eqTestS_self us (by omega)
 have Q1 := c_eqIntSS_self G (by omega) hR
 have HH := c_heldIntSS G 1 (by omega) (by omega) (by omega) (by omega)
 have n3 : ¬ 1 + 2 * (us.length : Int) < 0 := by omega
 have n4 : ¬ 1 + (totR G : Int) < 0 := by omega
 have tk : List.take G.length (G.map eN) = G.map eN := List.take_of_length_le (by simp)
 have tk2 : List.take us.length (us.map e2) = us.map e2 := List.take_of_length_le (by simp)
 simp (config := { maxSteps := 2000000 }) [IBestRounds_12,made,settle,elems,wholeP,DV.allNew,DV.adopt,adoptP,newP,S0,n1,n2,A0,Q0,Q1,HH,n3,n4,tk,tk2,C1,C2]
set_option maxHeartbeats 4000000 in
theorem sBestRounds_14 {us : List T} {fee v : Int} {G : List (List Int)} (hu : us.length ≤ 1048576) (hG : G.length ≤ 100) (hT : totR G ≤ 100) (hR : ∀ r ∈ G,(r.length : Int) ≤ 1048576) (C1 : call lf n_impl_BestRounds [.sl 0 (us.map e2),.i fee] = some (.tup [.fr 1 (G.map eN),.i v],[])) (C2 : call lf n_spec_BestRounds [.sl 0 (us.map e2),.i fee] = some (.tup [.fr 1 (G.map eN),.i v],[])) : ∃ S1,ex lf IBestRounds_14 ⟨[(0,.sl 0 (us.map e2)),(1,.i (fee)),(6,.sl 0 (G.map eR)),(7,.i (v)),(9,.sl 0 ((mrkR 1 G).map eR)),(12,.i (1 + (totR G : Int)))],[]⟩ = some (.normal,S1) ∧ ∀ g ∈ ([(13,.i (1))] : List (Nat × DV)),made S1 g := by
 have S0 := c_szTestS us 1048576 (by omega) (by omega) (by omega)
 have n1 : ¬ (1048576 : Int) < us.length := by omega
 have n2 : ¬ (1048576 : Int) - us.length < 0 := by omega
 have A0 := c_toTestS us (by omega)
 have Q0 := c_eqTestS_self us (by omega)
 have Q1 := c_eqIntSS_self G (by omega) hR
 have HH := c_heldIntSS G 1 (by omega) (by omega) (by omega) (by omega)
 have n3 : ¬ 1 + 2 * (us.length : Int) < 0 := by omega
 have n4 : ¬ 1 + (totR G : Int) < 0 := by omega
 have tk : List.take G.length (G.map eN) = G.map eN := List.take_of_length_le (by simp)
 have tk2 : List.take us.length (us.map e2) = us.map e2 := List.take_of_length_le (by simp)
 simp (config := { maxSteps := 2000000 }) [IBestRounds_14,made,settle,elems,wholeP,DV.allNew,DV.adopt,adoptP,newP,S0,n1,n2,A0,Q0,Q1,HH,n3,n4,tk,tk2,C1,C2]
set_option maxHeartbeats 4000000 in
theorem sBestRounds_15 {us : List T} {fee v : Int} {G : List (List Int)} (hu : us.length ≤ 1048576) (hG : G.length ≤ 100) (hT : totR G ≤ 100) (hR : ∀ r ∈ G,(r.length : Int) ≤ 1048576) (C1 : call lf n_impl_BestRounds [.sl 0 (us.map e2),.i fee] = some (.tup [.fr 1 (G.map eN),.i v],[])) (C2 : call lf n_spec_BestRounds [.sl 0 (us.map e2),.i fee] = some (.tup [.fr 1 (G.map eN),.i v],[])) : ∃ S1,ex lf IBestRounds_15 ⟨[(0,.sl 0 (us.map e2)),(1,.i (fee)),(6,.sl 0 (G.map eR)),(7,.i (v)),(9,.sl 0 ((mrkR 1 G).map eR)),(12,.i (1 + (totR G : Int))),(13,.i (1))],[]⟩ = some (.normal,S1) ∧ ∀ g ∈ ([(13,.i (1 + (totR G : Int)))] : List (Nat × DV)),made S1 g := by
 have S0 := c_szTestS us 1048576 (by omega) (by omega) (by omega)
 have n1 : ¬ (1048576 : Int) < us.length := by omega
 have n2 : ¬ (1048576 : Int) - us.length < 0 := by omega
 have A0 := c_toTestS us (by omega)
 have Q0 := c_eqTestS_self us (by omega)
 have Q1 := c_eqIntSS_self G (by omega) hR
 have HH := c_heldIntSS G 1 (by omega) (by omega) (by omega) (by omega)
 have n3 : ¬ 1 + 2 * (us.length : Int) < 0 := by omega
 have n4 : ¬ 1 + (totR G : Int) < 0 := by omega
 have tk : List.take G.length (G.map eN) = G.map eN := List.take_of_length_le (by simp)
 have tk2 : List.take us.length (us.map e2) = us.map e2 := List.take_of_length_le (by simp)
 simp (config := { maxSteps := 2000000 }) [IBestRounds_15,made,settle,elems,wholeP,DV.allNew,DV.adopt,adoptP,newP,S0,n1,n2,A0,Q0,Q1,HH,n3,n4,tk,tk2,C1,C2]
set_option maxHeartbeats 4000000 in
theorem sBestRounds_16 {us : List T} {fee v : Int} {G : List (List Int)} (hu : us.length ≤ 1048576) (hG : G.length ≤ 100) (hT : totR G ≤ 100) (hR : ∀ r ∈ G,(r.length : Int) ≤ 1048576) (C1 : call lf n_impl_BestRounds [.sl 0 (us.map e2),.i fee] = some (.tup [.fr 1 (G.map eN),.i v],[])) (C2 : call lf n_spec_BestRounds [.sl 0 (us.map e2),.i fee] = some (.tup [.fr 1 (G.map eN),.i v],[])) : ∃ S1,ex lf IBestRounds_16 ⟨[(0,.sl 0 (us.map e2)),(1,.i (fee)),(6,.sl 0 (G.map eR)),(7,.i (v)),(9,.sl 0 ((mrkR 1 G).map eR)),(12,.i (1 + (totR G : Int))),(13,.i (1 + (totR G : Int)))],[]⟩ = some (.normal,S1) ∧ ∀ g ∈ ([] : List (Nat × DV)),made S1 g := by
 have S0 := c_szTestS us 1048576 (by omega) (by omega) (by omega)
 have n1 : ¬ (1048576 : Int) < us.length := by omega
 have n2 : ¬ (1048576 : Int) - us.length < 0 := by omega
 have A0 := c_toTestS us (by omega)
 have Q0 := c_eqTestS_self us (by omega)
 have Q1 := c_eqIntSS_self G (by omega) hR
 have HH := c_heldIntSS G 1 (by omega) (by omega) (by omega) (by omega)
 have n3 : ¬ 1 + 2 * (us.length : Int) < 0 := by omega
 have n4 : ¬ 1 + (totR G : Int) < 0 := by omega
 have tk : List.take G.length (G.map eN) = G.map eN := List.take_of_length_le (by simp)
 have tk2 : List.take us.length (us.map e2) = us.map e2 := List.take_of_length_le (by simp)
 simp (config := { maxSteps := 2000000 }) [IBestRounds_16,made,settle,elems,wholeP,DV.allNew,DV.adopt,adoptP,newP,S0,n1,n2,A0,Q0,Q1,HH,n3,n4,tk,tk2,C1,C2]
set_option maxHeartbeats 4000000 in
theorem sBestRounds_17 {us : List T} {fee v : Int} {G : List (List Int)} (hu : us.length ≤ 1048576) (hG : G.length ≤ 100) (hT : totR G ≤ 100) (hR : ∀ r ∈ G,(r.length : Int) ≤ 1048576) (C1 : call lf n_impl_BestRounds [.sl 0 (us.map e2),.i fee] = some (.tup [.fr 1 (G.map eN),.i v],[])) (C2 : call lf n_spec_BestRounds [.sl 0 (us.map e2),.i fee] = some (.tup [.fr 1 (G.map eN),.i v],[])) : ∃ S1,ex lf IBestRounds_17 ⟨[(0,.sl 0 (us.map e2)),(1,.i (fee)),(6,.sl 0 (G.map eR)),(7,.i (v)),(9,.sl 0 ((mrkR 1 G).map eR)),(12,.i (1 + (totR G : Int))),(13,.i (1 + (totR G : Int)))],[]⟩ = some (.normal,S1) ∧ ∀ g ∈ ([] : List (Nat × DV)),made S1 g := by
 have S0 := c_szTestS us 1048576 (by omega) (by omega) (by omega)
 have n1 : ¬ (1048576 : Int) < us.length := by omega
 have n2 : ¬ (1048576 : Int) - us.length < 0 := by omega
 have A0 := c_toTestS us (by omega)
 have Q0 := c_eqTestS_self us (by omega)
 have Q1 := c_eqIntSS_self G (by omega) hR
 have HH := c_heldIntSS G 1 (by omega) (by omega) (by omega) (by omega)
 have n3 : ¬ 1 + 2 * (us.length : Int) < 0 := by omega
 have n4 : ¬ 1 + (totR G : Int) < 0 := by omega
 have tk : List.take G.length (G.map eN) = G.map eN := List.take_of_length_le (by simp)
 have tk2 : List.take us.length (us.map e2) = us.map e2 := List.take_of_length_le (by simp)
 simp (config := { maxSteps := 2000000 }) [IBestRounds_17,made,settle,elems,wholeP,DV.allNew,DV.adopt,adoptP,newP,S0,n1,n2,A0,Q0,Q1,HH,n3,n4,tk,tk2,C1,C2]
set_option maxHeartbeats 4000000 in
theorem sBestRounds_18 {us : List T} {fee v : Int} {G : List (List Int)} (hu : us.length ≤ 1048576) (hG : G.length ≤ 100) (hT : totR G ≤ 100) (hR : ∀ r ∈ G,(r.length : Int) ≤ 1048576) (C1 : call lf n_impl_BestRounds [.sl 0 (us.map e2),.i fee] = some (.tup [.fr 1 (G.map eN),.i v],[])) (C2 : call lf n_spec_BestRounds [.sl 0 (us.map e2),.i fee] = some (.tup [.fr 1 (G.map eN),.i v],[])) : ∃ S1,ex lf IBestRounds_18 ⟨[(0,.sl 0 (us.map e2)),(1,.i (fee)),(6,.sl 0 (G.map eR)),(7,.i (v)),(9,.sl 0 ((mrkR 1 G).map eR)),(12,.i (1 + (totR G : Int)))],[]⟩ = some (.normal,S1) ∧ ∀ g ∈ ([(14,.sl 1 (G.map eN)),(15,.i (v))] : List (Nat × DV)),made S1 g := by
 have S0 := c_szTestS us 1048576 (by omega) (by omega) (by omega)
 have n1 : ¬ (1048576 : Int) < us.length := by omega
 have n2 : ¬ (1048576 : Int) - us.length < 0 := by omega
 have A0 := c_toTestS us (by omega)
 have Q0 := c_eqTestS_self us (by omega)
 have Q1 := c_eqIntSS_self G (by omega) hR
 have HH := c_heldIntSS G 1 (by omega) (by omega) (by omega) (by omega)
 have n3 : ¬ 1 + 2 * (us.length : Int) < 0 := by omega
 have n4 : ¬ 1 + (totR G : Int) < 0 := by omega
 have tk : List.take G.length (G.map eN) = G.map eN := List.take_of_length_le (by simp)
 have tk2 : List.take us.length (us.map e2) = us.map e2 := List.take_of_length_le (by simp)
 simp (config := { maxSteps := 2000000 }) [IBestRounds_18,made,settle,elems,wholeP,DV.allNew,DV.adopt,adoptP,newP,S0,n1,n2,A0,Q0,Q1,HH,n3,n4,tk,tk2,C1,C2]
set_option maxHeartbeats 4000000 in
theorem sBestRounds_19 {us : List T} {fee v : Int} {G : List (List Int)} (hu : us.length ≤ 1048576) (hG : G.length ≤ 100) (hT : totR G ≤ 100) (hR : ∀ r ∈ G,(r.length : Int) ≤ 1048576) (C1 : call lf n_impl_BestRounds [.sl 0 (us.map e2),.i fee] = some (.tup [.fr 1 (G.map eN),.i v],[])) (C2 : call lf n_spec_BestRounds [.sl 0 (us.map e2),.i fee] = some (.tup [.fr 1 (G.map eN),.i v],[])) : ∃ S1,ex lf IBestRounds_19 ⟨[(6,.sl 0 (G.map eR)),(7,.i (v)),(9,.sl 0 ((mrkR 1 G).map eR)),(12,.i (1 + (totR G : Int))),(14,.sl 0 (G.map eR)),(15,.i (v))],[]⟩ = some (.normal,S1) ∧ ∀ g ∈ ([] : List (Nat × DV)),made S1 g := by
 have S0 := c_szTestS us 1048576 (by omega) (by omega) (by omega)
 have n1 : ¬ (1048576 : Int) < us.length := by omega
 have n2 : ¬ (1048576 : Int) - us.length < 0 := by omega
 have A0 := c_toTestS us (by omega)
 have Q0 := c_eqTestS_self us (by omega)
 have Q1 := c_eqIntSS_self G (by omega) hR
 have HH := c_heldIntSS G 1 (by omega) (by omega) (by omega) (by omega)
 have n3 : ¬ 1 + 2 * (us.length : Int) < 0 := by omega
 have n4 : ¬ 1 + (totR G : Int) < 0 := by omega
 have tk : List.take G.length (G.map eN) = G.map eN := List.take_of_length_le (by simp)
 have tk2 : List.take us.length (us.map e2) = us.map e2 := List.take_of_length_le (by simp)
 simp (config := { maxSteps := 2000000 }) [IBestRounds_19,made,settle,elems,wholeP,DV.allNew,DV.adopt,adoptP,newP,S0,n1,n2,A0,Q0,Q1,HH,n3,n4,tk,tk2,C1,C2]
set_option maxHeartbeats 4000000 in
theorem sBestRounds_20 {us : List T} {fee v : Int} {G : List (List Int)} (hu : us.length ≤ 1048576) (hG : G.length ≤ 100) (hT : totR G ≤ 100) (hR : ∀ r ∈ G,(r.length : Int) ≤ 1048576) (C1 : call lf n_impl_BestRounds [.sl 0 (us.map e2),.i fee] = some (.tup [.fr 1 (G.map eN),.i v],[])) (C2 : call lf n_spec_BestRounds [.sl 0 (us.map e2),.i fee] = some (.tup [.fr 1 (G.map eN),.i v],[])) : ∃ S1,ex lf IBestRounds_20 ⟨[(9,.sl 0 ((mrkR 1 G).map eR)),(12,.i (1 + (totR G : Int)))],[]⟩ = some (.normal,S1) ∧ ∀ g ∈ ([(13,.i (1))] : List (Nat × DV)),made S1 g := by
 have S0 := c_szTestS us 1048576 (by omega) (by omega) (by omega)
 have n1 : ¬ (1048576 : Int) < us.length := by omega
 have n2 : ¬ (1048576 : Int) - us.length < 0 := by omega
 have A0 := c_toTestS us (by omega)
 have Q0 := c_eqTestS_self us (by omega)
 have Q1 := c_eqIntSS_self G (by omega) hR
 have HH := c_heldIntSS G 1 (by omega) (by omega) (by omega) (by omega)
 have n3 : ¬ 1 + 2 * (us.length : Int) < 0 := by omega
 have n4 : ¬ 1 + (totR G : Int) < 0 := by omega
 have tk : List.take G.length (G.map eN) = G.map eN := List.take_of_length_le (by simp)
 have tk2 : List.take us.length (us.map e2) = us.map e2 := List.take_of_length_le (by simp)
 simp (config := { maxSteps := 2000000 }) [IBestRounds_20,made,settle,elems,wholeP,DV.allNew,DV.adopt,adoptP,newP,S0,n1,n2,A0,Q0,Q1,HH,n3,n4,tk,tk2,C1,C2]
set_option maxHeartbeats 4000000 in
theorem sBestRounds_21 {us : List T} {fee v : Int} {G : List (List Int)} (hu : us.length ≤ 1048576) (hG : G.length ≤ 100) (hT : totR G ≤ 100) (hR : ∀ r ∈ G,(r.length : Int) ≤ 1048576) (C1 : call lf n_impl_BestRounds [.sl 0 (us.map e2),.i fee] = some (.tup [.fr 1 (G.map eN),.i v],[])) (C2 : call lf n_spec_BestRounds [.sl 0 (us.map e2),.i fee] = some (.tup [.fr 1 (G.map eN),.i v],[])) : ∃ S1,ex lf IBestRounds_21 ⟨[(9,.sl 0 ((mrkR 1 G).map eR)),(12,.i (1 + (totR G : Int))),(13,.i (1))],[]⟩ = some (.normal,S1) ∧ ∀ g ∈ ([(13,.i (1 + (totR G : Int)))] : List (Nat × DV)),made S1 g := by
 have S0 := c_szTestS us 1048576 (by omega) (by omega) (by omega)
 have n1 : ¬ (1048576 : Int) < us.length := by omega
 have n2 : ¬ (1048576 : Int) - us.length < 0 := by omega
 have A0 := c_toTestS us (by omega)
 have Q0 := c_eqTestS_self us (by omega)
 have Q1 := c_eqIntSS_self G (by omega) hR
 have HH := c_heldIntSS G 1 (by omega) (by omega) (by omega) (by omega)
 have n3 : ¬ 1 + 2 * (us.length : Int) < 0 := by omega
 have n4 : ¬ 1 + (totR G : Int) < 0 := by omega
 have tk : List.take G.length (G.map eN) = G.map eN := List.take_of_length_le (by simp)
 have tk2 : List.take us.length (us.map e2) = us.map e2 := List.take_of_length_le (by simp)
 simp (config := { maxSteps := 2000000 }) [IBestRounds_21,made,settle,elems,wholeP,DV.allNew,DV.adopt,adoptP,newP,S0,n1,n2,A0,Q0,Q1,HH,n3,n4,tk,tk2,C1,C2]
set_option maxHeartbeats 4000000 in
theorem sBestRounds_22 {us : List T} {fee v : Int} {G : List (List Int)} (hu : us.length ≤ 1048576) (hG : G.length ≤ 100) (hT : totR G ≤ 100) (hR : ∀ r ∈ G,(r.length : Int) ≤ 1048576) (C1 : call lf n_impl_BestRounds [.sl 0 (us.map e2),.i fee] = some (.tup [.fr 1 (G.map eN),.i v],[])) (C2 : call lf n_spec_BestRounds [.sl 0 (us.map e2),.i fee] = some (.tup [.fr 1 (G.map eN),.i v],[])) : ∃ S1,ex lf IBestRounds_22 ⟨[(12,.i (1 + (totR G : Int))),(13,.i (1 + (totR G : Int)))],[]⟩ = some (.normal,S1) ∧ ∀ g ∈ ([] : List (Nat × DV)),made S1 g := by
 have S0 := c_szTestS us 1048576 (by omega) (by omega) (by omega)
 have n1 : ¬ (1048576 : Int) < us.length := by omega
 have n2 : ¬ (1048576 : Int) - us.length < 0 := by omega
 have A0 := c_toTestS us (by omega)
 have Q0 := c_eqTestS_self us (by omega)
 have Q1 := c_eqIntSS_self G (by omega) hR
 have HH := c_heldIntSS G 1 (by omega) (by omega) (by omega) (by omega)
 have n3 : ¬ 1 + 2 * (us.length : Int) < 0 := by omega
 have n4 : ¬ 1 + (totR G : Int) < 0 := by omega
 have tk : List.take G.length (G.map eN) = G.map eN := List.take_of_length_le (by simp)
 have tk2 : List.take us.length (us.map e2) = us.map e2 := List.take_of_length_le (by simp)
 simp (config := { maxSteps := 2000000 }) [IBestRounds_22,made,settle,elems,wholeP,DV.allNew,DV.adopt,adoptP,newP,S0,n1,n2,A0,Q0,Q1,HH,n3,n4,tk,tk2,C1,C2]
set_option maxHeartbeats 4000000 in
theorem sBestRounds_23 {us : List T} {fee v : Int} {G : List (List Int)} (hu : us.length ≤ 1048576) (hG : G.length ≤ 100) (hT : totR G ≤ 100) (hR : ∀ r ∈ G,(r.length : Int) ≤ 1048576) (C1 : call lf n_impl_BestRounds [.sl 0 (us.map e2),.i fee] = some (.tup [.fr 1 (G.map eN),.i v],[])) (C2 : call lf n_spec_BestRounds [.sl 0 (us.map e2),.i fee] = some (.tup [.fr 1 (G.map eN),.i v],[])) : ∃ S1,ex lf IBestRounds_23 ⟨[(12,.i (1 + (totR G : Int))),(13,.i (1 + (totR G : Int)))],[]⟩ = some (.normal,S1) ∧ ∀ g ∈ ([] : List (Nat × DV)),made S1 g := by
 have S0 := c_szTestS us 1048576 (by omega) (by omega) (by omega)
 have n1 : ¬ (1048576 : Int) < us.length := by omega
 have n2 : ¬ (1048576 : Int) - us.length < 0 := by omega
 have A0 := c_toTestS us (by omega)
 have Q0 := c_eqTestS_self us (by omega)
 have Q1 := c_eqIntSS_self G (by omega) hR
 have HH := c_heldIntSS G 1 (by omega) (by omega) (by omega) (by omega)
 have n3 : ¬ 1 + 2 * (us.length : Int) < 0 := by omega
 have n4 : ¬ 1 + (totR G : Int) < 0 := by omega
 have tk : List.take G.length (G.map eN) = G.map eN := List.take_of_length_le (by simp)
 have tk2 : List.take us.length (us.map e2) = us.map e2 := List.take_of_length_le (by simp)
 simp (config := { maxSteps := 2000000 }) [IBestRounds_23,made,settle,elems,wholeP,DV.allNew,DV.adopt,adoptP,newP,S0,n1,n2,A0,Q0,Q1,HH,n3,n4,tk,tk2,C1,C2]
set_option maxHeartbeats 4000000 in
theorem sBestRounds_24 {us : List T} {fee v : Int} {G : List (List Int)} (hu : us.length ≤ 1048576) (hG : G.length ≤ 100) (hT : totR G ≤ 100) (hR : ∀ r ∈ G,(r.length : Int) ≤ 1048576) (C1 : call lf n_impl_BestRounds [.sl 0 (us.map e2),.i fee] = some (.tup [.fr 1 (G.map eN),.i v],[])) (C2 : call lf n_spec_BestRounds [.sl 0 (us.map e2),.i fee] = some (.tup [.fr 1 (G.map eN),.i v],[])) : ∃ S1,ex lf IBestRounds_24 ⟨[],[]⟩ = some (.normal,S1) ∧ ∀ g ∈ ([(4,.b true)] : List (Nat × DV)),made S1 g := by
 have S0 := c_szTestS us 1048576 (by omega) (by omega) (by omega)
 have n1 : ¬ (1048576 : Int) < us.length := by omega
 have n2 : ¬ (1048576 : Int) - us.length < 0 := by omega
 have A0 := c_toTestS us (by omega)
 have Q0 := c_eqTestS_self us (by omega)
 have Q1 := c_eqIntSS_self G (by omega) hR
 have HH := c_heldIntSS G 1 (by omega) (by omega) (by omega) (by omega)
 have n3 : ¬ 1 + 2 * (us.length : Int) < 0 := by omega
 have n4 : ¬ 1 + (totR G : Int) < 0 := by omega
 have tk : List.take G.length (G.map eN) = G.map eN := List.take_of_length_le (by simp)
 have tk2 : List.take us.length (us.map e2) = us.map e2 := List.take_of_length_le (by simp)
 simp (config := { maxSteps := 2000000 }) [IBestRounds_24,made,settle,elems,wholeP,DV.allNew,DV.adopt,adoptP,newP,S0,n1,n2,A0,Q0,Q1,HH,n3,n4,tk,tk2,C1,C2]
section
variable {P : Go.Program} {dc : Array Go.Oper → Bool}
set_option maxHeartbeats 4000000 in
theorem law_FnExactBestRounds (hok : ∀ f F,lf f = some F → OkF P dc f F) (hD : ∀ Γ,FnSound P Γ → DrawOk P Γ dc) (hB : BackSound P) (us : List T) (hu0 : us.length ≤ Go.maxLen) (fee : Int) (_ : -9223372036854775808 ≤ fee ∧ fee ≤ 9223372036854775807) {w : Go.World} (hg : GlobC ⟨w,fun _ => True,[]⟩) {v0 : Go.Value} (h0 : CR w w.heap.size (okb (fun _ => True) w.heap.size fun _ => none) (rs2 us) v0) :
  Go.Calls P n_laws_FnExactBestRounds #[v0,.int .i64 fee] w fun e w' => e = .returned (.bool true) ∧ Go.RowKit.Below w.heap.size w w' := by
 have hS : ∀ n,CallOk P (callN lf n) := fun n => callOk_of (callN_sound hok hD hB n)
 by_cases hbig : (1048576 : Int) < us.length
 ·have C : call lf n_laws_FnExactBestRounds [rs2 us,.i fee] = some (.b true,[]) := by
   show call lf n_laws_FnExactBestRounds [.sl 0 (us.map e2),.i fee] = _
   have S0 := c_szTestS us 1048576 (by omega) (by omega) (by unfold Go.maxLen at hu0; omega)
   rw [call_k lf n_laws_FnExactBestRounds _ (F := F_laws_FnExactBestRounds) rfl rfl]
   simp [F_laws_FnExactBestRounds,S0,hbig]
  exact law_calls (call_sound hok hD hB C) (entry_top hg rfl (by simp [rs2,refW]) (fun j d u hd hu => by
   match j,hd,hu with
   | 0,hd,hu => simp at hd hu; subst hd; subst hu; exact .cr _ _ h0
   | 1,hd,hu => simp at hd hu; subst hd; subst hu; exact .cr _ _ (.i _)
   | j + 2,hd,hu => simp at hd))
 have hu : us.length ≤ 1048576 := by omega
 have C1 := c_impl_BestRounds us fee (by omega)
 have C2 := c_spec_BestRounds us fee (by omega)
 obtain ⟨l1,l2⟩ := brL_lenX us fee
 have hDst : Dst ((brL us fee).map ni) := by
  cases h : brO us fee with
  | false => rw [(brN_bad h).2]; intro i j r s _ hi; simp at hi
  | true =>
   obtain ⟨h1,hf⟩ := brO_iff.1 h
   obtain ⟨G,_,_⟩ := br_all h1 hf.1
   have e1 : brL us fee = brR us fee := by unfold brL; rw [h]; rfl
   rw [e1]
   exact dst_gok G.nd
 have hG : ((brL us fee).map ni).length ≤ 100 := by rw [List.length_map]; omega
 have hT : totR ((brL us fee).map ni) ≤ 100 := by rw [totR_flat,ni_flat,ni_len]; omega
 generalize (brL us fee).map ni = G at *
 generalize brN us fee = v at *
 have hR : ∀ r ∈ G,(r.length : Int) ≤ 1048576 := fun r hr => by
  obtain ⟨i,hi⟩ := List.mem_iff_getElem?.1 hr
  have := totR_mem G i r hi
  omega
 refine law_start hok (F := F_laws_FnExactBestRounds) rfl rfl rfl rfl hg (fs := [⟨0,w.heap.size,fun b => b < w.heap.size,rs2 us⟩,⟨1,w.heap.size,fun b => b < w.heap.size,.i (fee)⟩]) (by
  intro f hf
  simp only [List.mem_cons,List.not_mem_nil,or_false] at hf
  rcases hf with rfl | rfl
  ·exact ⟨in_fact h0 (by simp [rs2,DV.allOld,al_e2]),by show (0 : Nat) < 2; omega⟩
  ·exact ⟨.inl (.i _),by show (1 : Nat) < 2; omega⟩) (fun N code a0 hv hc hs0 => ?_)
 rw [body_BestRounds] at hv
 refine hs0.base hS (l1 := IBestRounds_0) (l2 := RBestRounds_1) hv hc rfl [⟨0,w.heap.size,fun b => b < w.heap.size,rs2 us⟩,⟨1,w.heap.size,fun b => b < w.heap.size,.i (fee)⟩] (by
  intro f hf
  simp only [List.mem_cons,List.not_mem_nil,or_false] at hf
  rcases hf with rfl | rfl <;> exact ⟨by simp,by dsimp only; decide⟩) [] (by
  simp only [envF,List.map_cons,List.map_nil,DV.lend,rs2,rss,lend_e2,lend_eN,lend_eR,lend_e3,lend_ints_]
  exact sBestRounds_0 hu hG hT hR C1 C2) (fun c1 a1 w1 hv1 hc1 hz1 hs1 => ?_)
 replace hs1 := hs1.sub (gs := [⟨0,w.heap.size,fun b => b < w.heap.size,rs2 us⟩,⟨1,w.heap.size,fun b => b < w.heap.size,.i (fee)⟩]) (by
  intro g hg
  refine hs1.so g ?_
  simp only [List.cons_append,List.nil_append,List.map_cons,List.map_nil,newF]
  simp only [List.mem_cons,List.not_mem_nil,or_false] at hg ⊢
  rcases hg with rfl | rfl <;> simp)
 refine hs1.base hS (l1 := IBestRounds_1) (l2 := RBestRounds_2) hv1 hc1 rfl [⟨0,w.heap.size,fun b => b < w.heap.size,rs2 us⟩,⟨1,w.heap.size,fun b => b < w.heap.size,.i (fee)⟩] (by
  intro f hf
  simp only [List.mem_cons,List.not_mem_nil,or_false] at hf
  rcases hf with rfl | rfl <;> exact ⟨by simp,by dsimp only; decide⟩) [(5,.i (1048576))] (by
  simp only [envF,List.map_cons,List.map_nil,DV.lend,rs2,rss,lend_e2,lend_eN,lend_eR,lend_e3,lend_ints_]
  exact sBestRounds_1 hu hG hT hR C1 C2) (fun c2 a2 w2 hv2 hc2 hz2 hs2 => ?_)
 replace hs2 := hs2.sub (gs := [⟨0,w.heap.size,fun b => b < w.heap.size,rs2 us⟩,⟨1,w.heap.size,fun b => b < w.heap.size,.i (fee)⟩,⟨5,w1.heap.size,fun b => w1.heap.size ≤ b ∧ b < w2.heap.size,.i (1048576)⟩]) (by
  intro g hg
  refine hs2.so g ?_
  simp only [List.cons_append,List.nil_append,List.map_cons,List.map_nil,newF]
  simp only [List.mem_cons,List.not_mem_nil,or_false] at hg ⊢
  rcases hg with rfl | rfl | rfl <;> simp)
 refine hs2.base hS (l1 := IBestRounds_2) (l2 := RBestRounds_3) hv2 hc2 rfl [⟨0,w.heap.size,fun b => b < w.heap.size,rs2 us⟩,⟨1,w.heap.size,fun b => b < w.heap.size,.i (fee)⟩] (by
  intro f hf
  simp only [List.mem_cons,List.not_mem_nil,or_false] at hf
  rcases hf with rfl | rfl <;> exact ⟨by simp,by dsimp only; decide⟩) [(5,.i (1048576 - (us.length : Int)))] (by
  simp only [envF,List.map_cons,List.map_nil,DV.lend,rs2,rss,lend_e2,lend_eN,lend_eR,lend_e3,lend_ints_]
  exact sBestRounds_2 hu hG hT hR C1 C2) (fun c3 a3 w3 hv3 hc3 hz3 hs3 => ?_)
 replace hs3 := hs3.sub (gs := [⟨0,w.heap.size,fun b => b < w.heap.size,rs2 us⟩,⟨1,w.heap.size,fun b => b < w.heap.size,.i (fee)⟩,⟨5,w2.heap.size,fun b => w2.heap.size ≤ b ∧ b < w3.heap.size,.i (1048576 - (us.length : Int))⟩]) (by
  intro g hg
  refine hs3.so g ?_
  simp only [List.cons_append,List.nil_append,List.map_cons,List.map_nil,newF]
  simp only [List.mem_cons,List.not_mem_nil,or_false] at hg ⊢
  rcases hg with rfl | rfl | rfl <;> simp)
 refine hs3.base hS (l1 := IBestRounds_3) (l2 := RBestRounds_4) hv3 hc3 rfl [⟨0,w.heap.size,fun b => b < w.heap.size,rs2 us⟩,⟨1,w.heap.size,fun b => b < w.heap.size,.i (fee)⟩] (by
  intro f hf
  simp only [List.mem_cons,List.not_mem_nil,or_false] at hf
  rcases hf with rfl | rfl <;> exact ⟨by simp,by dsimp only; decide⟩) [] (by
  simp only [envF,List.map_cons,List.map_nil,DV.lend,rs2,rss,lend_e2,lend_eN,lend_eR,lend_e3,lend_ints_]
  exact sBestRounds_3 hu hG hT hR C1 C2) (fun c4 a4 w4 hv4 hc4 hz4 hs4 => ?_)
 replace hs4 := hs4.sub (gs := [⟨0,w.heap.size,fun b => b < w.heap.size,rs2 us⟩,⟨1,w.heap.size,fun b => b < w.heap.size,.i (fee)⟩]) (by
  intro g hg
  refine hs4.so g ?_
  simp only [List.cons_append,List.nil_append,List.map_cons,List.map_nil,newF]
  simp only [List.mem_cons,List.not_mem_nil,or_false] at hg ⊢
  rcases hg with rfl | rfl <;> simp)
 refine hs4.base hS (l1 := IBestRounds_4) (l2 := RBestRounds_5) hv4 hc4 rfl [⟨0,w.heap.size,fun b => b < w.heap.size,rs2 us⟩,⟨1,w.heap.size,fun b => b < w.heap.size,.i (fee)⟩] (by
  intro f hf
  simp only [List.mem_cons,List.not_mem_nil,or_false] at hf
  rcases hf with rfl | rfl <;> exact ⟨by simp,by dsimp only; decide⟩) [(6,.sl 1 (G.map eN)),(7,.i (v))] (by
  simp only [envF,List.map_cons,List.map_nil,DV.lend,rs2,rss,lend_e2,lend_eN,lend_eR,lend_e3,lend_ints_]
  exact sBestRounds_4 hu hG hT hR C1 C2) (fun c5 a5 w5 hv5 hc5 hz5 hs5 => ?_)
 replace hs5 := hs5.sub (gs := [⟨0,w.heap.size,fun b => b < w.heap.size,rs2 us⟩,⟨1,w.heap.size,fun b => b < w.heap.size,.i (fee)⟩,⟨6,w4.heap.size,fun b => w4.heap.size ≤ b ∧ b < w5.heap.size,.sl 1 (G.map eN)⟩,⟨7,w4.heap.size,fun b => w4.heap.size ≤ b ∧ b < w5.heap.size,.i (v)⟩]) (by
  intro g hg
  refine hs5.so g ?_
  simp only [List.cons_append,List.nil_append,List.map_cons,List.map_nil,newF]
  simp only [List.mem_cons,List.not_mem_nil,or_false] at hg ⊢
  rcases hg with rfl | rfl | rfl | rfl <;> simp)
 refine hs5.base hS (l1 := IBestRounds_5) (l2 := RBestRounds_6) hv5 hc5 rfl [⟨0,w.heap.size,fun b => b < w.heap.size,rs2 us⟩,⟨1,w.heap.size,fun b => b < w.heap.size,.i (fee)⟩,⟨6,w4.heap.size,fun b => w4.heap.size ≤ b ∧ b < w5.heap.size,.sl 1 (G.map eN)⟩,⟨7,w4.heap.size,fun b => w4.heap.size ≤ b ∧ b < w5.heap.size,.i (v)⟩] (by
  intro f hf
  simp only [List.mem_cons,List.not_mem_nil,or_false] at hf
  rcases hf with rfl | rfl | rfl | rfl <;> exact ⟨by simp,by dsimp only; decide⟩) [(8,.sl 1 (us.map e2))] (by
  simp only [envF,List.map_cons,List.map_nil,DV.lend,rs2,rss,lend_e2,lend_eN,lend_eR,lend_e3,lend_ints_]
  exact sBestRounds_5 hu hG hT hR C1 C2) (fun c6 a6 w6 hv6 hc6 hz6 hs6 => ?_)
 replace hs6 := hs6.sub (gs := [⟨0,w.heap.size,fun b => b < w.heap.size,rs2 us⟩,⟨1,w.heap.size,fun b => b < w.heap.size,.i (fee)⟩,⟨6,w4.heap.size,fun b => w4.heap.size ≤ b ∧ b < w5.heap.size,.sl 1 (G.map eN)⟩,⟨7,w4.heap.size,fun b => w4.heap.size ≤ b ∧ b < w5.heap.size,.i (v)⟩,⟨8,w5.heap.size,fun b => w5.heap.size ≤ b ∧ b < w6.heap.size,.sl 1 (us.map e2)⟩]) (by
  intro g hg
  refine hs6.so g ?_
  simp only [List.cons_append,List.nil_append,List.map_cons,List.map_nil,newF]
  simp only [List.mem_cons,List.not_mem_nil,or_false] at hg ⊢
  rcases hg with rfl | rfl | rfl | rfl | rfl <;> simp)
 refine hs6.base hS (l1 := IBestRounds_6) (l2 := RBestRounds_7) hv6 hc6 rfl [⟨0,w.heap.size,fun b => b < w.heap.size,rs2 us⟩,⟨1,w.heap.size,fun b => b < w.heap.size,.i (fee)⟩,⟨6,w4.heap.size,fun b => w4.heap.size ≤ b ∧ b < w5.heap.size,.sl 1 (G.map eN)⟩,⟨7,w4.heap.size,fun b => w4.heap.size ≤ b ∧ b < w5.heap.size,.i (v)⟩,⟨8,w5.heap.size,fun b => w5.heap.size ≤ b ∧ b < w6.heap.size,.sl 1 (us.map e2)⟩] (by
  intro f hf
  simp only [List.mem_cons,List.not_mem_nil,or_false] at hf
  rcases hf with rfl | rfl | rfl | rfl | rfl <;> exact ⟨by simp,by dsimp only; decide⟩) [(9,.sl 1 (G.map eN)),(10,.i (v))] (by
  simp only [envF,List.map_cons,List.map_nil,DV.lend,rs2,rss,lend_e2,lend_eN,lend_eR,lend_e3,lend_ints_]
  exact sBestRounds_6 hu hG hT hR C1 C2) (fun c7 a7 w7 hv7 hc7 hz7 hs7 => ?_)
 replace hs7 := hs7.sub (gs := [⟨0,w.heap.size,fun b => b < w.heap.size,rs2 us⟩,⟨1,w.heap.size,fun b => b < w.heap.size,.i (fee)⟩,⟨6,w4.heap.size,fun b => w4.heap.size ≤ b ∧ b < w5.heap.size,.sl 1 (G.map eN)⟩,⟨7,w4.heap.size,fun b => w4.heap.size ≤ b ∧ b < w5.heap.size,.i (v)⟩,⟨8,w5.heap.size,fun b => w5.heap.size ≤ b ∧ b < w6.heap.size,.sl 1 (us.map e2)⟩,⟨9,w6.heap.size,fun b => w6.heap.size ≤ b ∧ b < w7.heap.size,.sl 1 (G.map eN)⟩,⟨10,w6.heap.size,fun b => w6.heap.size ≤ b ∧ b < w7.heap.size,.i (v)⟩]) (by
  intro g hg
  refine hs7.so g ?_
  simp only [List.cons_append,List.nil_append,List.map_cons,List.map_nil,newF]
  simp only [List.mem_cons,List.not_mem_nil,or_false] at hg ⊢
  rcases hg with rfl | rfl | rfl | rfl | rfl | rfl | rfl <;> simp)
 refine hs7.base hS (l1 := IBestRounds_7) (l2 := RBestRounds_8) hv7 hc7 rfl [⟨0,w.heap.size,fun b => b < w.heap.size,rs2 us⟩,⟨1,w.heap.size,fun b => b < w.heap.size,.i (fee)⟩,⟨6,w4.heap.size,fun b => w4.heap.size ≤ b ∧ b < w5.heap.size,.sl 1 (G.map eN)⟩,⟨7,w4.heap.size,fun b => w4.heap.size ≤ b ∧ b < w5.heap.size,.i (v)⟩,⟨8,w5.heap.size,fun b => w5.heap.size ≤ b ∧ b < w6.heap.size,.sl 1 (us.map e2)⟩,⟨9,w6.heap.size,fun b => w6.heap.size ≤ b ∧ b < w7.heap.size,.sl 1 (G.map eN)⟩,⟨10,w6.heap.size,fun b => w6.heap.size ≤ b ∧ b < w7.heap.size,.i (v)⟩] (by
  intro f hf
  simp only [List.mem_cons,List.not_mem_nil,or_false] at hf
  rcases hf with rfl | rfl | rfl | rfl | rfl | rfl | rfl <;> exact ⟨by simp,by dsimp only; decide⟩) [] (by
  simp only [envF,List.map_cons,List.map_nil,DV.lend,rs2,rss,lend_e2,lend_eN,lend_eR,lend_e3,lend_ints_]
  exact sBestRounds_7 hu hG hT hR C1 C2) (fun c8 a8 w8 hv8 hc8 hz8 hs8 => ?_)
 replace hs8 := hs8.sub (gs := [⟨0,w.heap.size,fun b => b < w.heap.size,rs2 us⟩,⟨1,w.heap.size,fun b => b < w.heap.size,.i (fee)⟩,⟨6,w4.heap.size,fun b => w4.heap.size ≤ b ∧ b < w5.heap.size,.sl 1 (G.map eN)⟩,⟨7,w4.heap.size,fun b => w4.heap.size ≤ b ∧ b < w5.heap.size,.i (v)⟩,⟨8,w5.heap.size,fun b => w5.heap.size ≤ b ∧ b < w6.heap.size,.sl 1 (us.map e2)⟩,⟨9,w6.heap.size,fun b => w6.heap.size ≤ b ∧ b < w7.heap.size,.sl 1 (G.map eN)⟩,⟨10,w6.heap.size,fun b => w6.heap.size ≤ b ∧ b < w7.heap.size,.i (v)⟩]) (by
  intro g hg
  refine hs8.so g ?_
  simp only [List.cons_append,List.nil_append,List.map_cons,List.map_nil,newF]
  simp only [List.mem_cons,List.not_mem_nil,or_false] at hg ⊢
  rcases hg with rfl | rfl | rfl | rfl | rfl | rfl | rfl <;> simp)
 refine hs8.base hS (l1 := IBestRounds_8) (l2 := RBestRounds_9) hv8 hc8 rfl [⟨0,w.heap.size,fun b => b < w.heap.size,rs2 us⟩,⟨1,w.heap.size,fun b => b < w.heap.size,.i (fee)⟩,⟨6,w4.heap.size,fun b => w4.heap.size ≤ b ∧ b < w5.heap.size,.sl 1 (G.map eN)⟩,⟨7,w4.heap.size,fun b => w4.heap.size ≤ b ∧ b < w5.heap.size,.i (v)⟩,⟨8,w5.heap.size,fun b => w5.heap.size ≤ b ∧ b < w6.heap.size,.sl 1 (us.map e2)⟩,⟨9,w6.heap.size,fun b => w6.heap.size ≤ b ∧ b < w7.heap.size,.sl 1 (G.map eN)⟩,⟨10,w6.heap.size,fun b => w6.heap.size ≤ b ∧ b < w7.heap.size,.i (v)⟩] (by
  intro f hf
  simp only [List.mem_cons,List.not_mem_nil,or_false] at hf
  rcases hf with rfl | rfl | rfl | rfl | rfl | rfl | rfl <;> exact ⟨by simp,by dsimp only; decide⟩) [] (by
  simp only [envF,List.map_cons,List.map_nil,DV.lend,rs2,rss,lend_e2,lend_eN,lend_eR,lend_e3,lend_ints_]
  exact sBestRounds_8 hu hG hT hR C1 C2) (fun c9 a9 w9 hv9 hc9 hz9 hs9 => ?_)
 replace hs9 := hs9.sub (gs := [⟨0,w.heap.size,fun b => b < w.heap.size,rs2 us⟩,⟨1,w.heap.size,fun b => b < w.heap.size,.i (fee)⟩,⟨6,w4.heap.size,fun b => w4.heap.size ≤ b ∧ b < w5.heap.size,.sl 1 (G.map eN)⟩,⟨7,w4.heap.size,fun b => w4.heap.size ≤ b ∧ b < w5.heap.size,.i (v)⟩,⟨8,w5.heap.size,fun b => w5.heap.size ≤ b ∧ b < w6.heap.size,.sl 1 (us.map e2)⟩,⟨9,w6.heap.size,fun b => w6.heap.size ≤ b ∧ b < w7.heap.size,.sl 1 (G.map eN)⟩,⟨10,w6.heap.size,fun b => w6.heap.size ≤ b ∧ b < w7.heap.size,.i (v)⟩]) (by
  intro g hg
  refine hs9.so g ?_
  simp only [List.cons_append,List.nil_append,List.map_cons,List.map_nil,newF]
  simp only [List.mem_cons,List.not_mem_nil,or_false] at hg ⊢
  rcases hg with rfl | rfl | rfl | rfl | rfl | rfl | rfl <;> simp)
 refine hs9.base hS (l1 := IBestRounds_9) (l2 := RBestRounds_10) hv9 hc9 rfl [⟨0,w.heap.size,fun b => b < w.heap.size,rs2 us⟩,⟨1,w.heap.size,fun b => b < w.heap.size,.i (fee)⟩,⟨6,w4.heap.size,fun b => w4.heap.size ≤ b ∧ b < w5.heap.size,.sl 1 (G.map eN)⟩,⟨7,w4.heap.size,fun b => w4.heap.size ≤ b ∧ b < w5.heap.size,.i (v)⟩,⟨8,w5.heap.size,fun b => w5.heap.size ≤ b ∧ b < w6.heap.size,.sl 1 (us.map e2)⟩,⟨9,w6.heap.size,fun b => w6.heap.size ≤ b ∧ b < w7.heap.size,.sl 1 (G.map eN)⟩,⟨10,w6.heap.size,fun b => w6.heap.size ≤ b ∧ b < w7.heap.size,.i (v)⟩] (by
  intro f hf
  simp only [List.mem_cons,List.not_mem_nil,or_false] at hf
  rcases hf with rfl | rfl | rfl | rfl | rfl | rfl | rfl <;> exact ⟨by simp,by dsimp only; decide⟩) [(11,.i (1))] (by
  simp only [envF,List.map_cons,List.map_nil,DV.lend,rs2,rss,lend_e2,lend_eN,lend_eR,lend_e3,lend_ints_]
  exact sBestRounds_9 hu hG hT hR C1 C2) (fun c10 a10 w10 hv10 hc10 hz10 hs10 => ?_)
 replace hs10 := hs10.sub (gs := [⟨0,w.heap.size,fun b => b < w.heap.size,rs2 us⟩,⟨1,w.heap.size,fun b => b < w.heap.size,.i (fee)⟩,⟨6,w4.heap.size,fun b => w4.heap.size ≤ b ∧ b < w5.heap.size,.sl 1 (G.map eN)⟩,⟨7,w4.heap.size,fun b => w4.heap.size ≤ b ∧ b < w5.heap.size,.i (v)⟩,⟨8,w5.heap.size,fun b => w5.heap.size ≤ b ∧ b < w6.heap.size,.sl 1 (us.map e2)⟩,⟨9,w6.heap.size,fun b => w6.heap.size ≤ b ∧ b < w7.heap.size,.sl 1 (G.map eN)⟩,⟨10,w6.heap.size,fun b => w6.heap.size ≤ b ∧ b < w7.heap.size,.i (v)⟩,⟨11,w9.heap.size,fun b => w9.heap.size ≤ b ∧ b < w10.heap.size,.i (1)⟩]) (by
  intro g hg
  refine hs10.so g ?_
  simp only [List.cons_append,List.nil_append,List.map_cons,List.map_nil,newF]
  simp only [List.mem_cons,List.not_mem_nil,or_false] at hg ⊢
  rcases hg with rfl | rfl | rfl | rfl | rfl | rfl | rfl | rfl <;> simp)
 refine hs10.markS hv10 hc10 (x := 8) (x2 := 50) (k := 11) (k2 := 51) (r := 52) (l2 := RBestRounds_11) (List.mem_of_getElem? (i := 4) rfl) (List.mem_of_getElem? (i := 7) rfl) (row_markTestS hok hD hB us 1 (by omega) (by omega) (by omega)) (by omega) (fun b h => h.1) (by decide) [⟨0,w.heap.size,fun b => b < w.heap.size,rs2 us⟩,⟨1,w.heap.size,fun b => b < w.heap.size,.i (fee)⟩,⟨6,w4.heap.size,fun b => w4.heap.size ≤ b ∧ b < w5.heap.size,.sl 1 (G.map eN)⟩,⟨7,w4.heap.size,fun b => w4.heap.size ≤ b ∧ b < w5.heap.size,.i (v)⟩,⟨9,w6.heap.size,fun b => w6.heap.size ≤ b ∧ b < w7.heap.size,.sl 1 (G.map eN)⟩,⟨10,w6.heap.size,fun b => w6.heap.size ≤ b ∧ b < w7.heap.size,.i (v)⟩] (by
  intro g hg
  simp only [List.mem_cons,List.not_mem_nil,or_false] at hg
  rcases hg with rfl | rfl | rfl | rfl | rfl | rfl <;> exact ⟨by simp,by dsimp only; decide,by dsimp only; decide,by dsimp only; decide,by dsimp only; decide⟩) (by
  intro g hg b h1 h2
  simp only [List.mem_cons,List.not_mem_nil,or_false] at hg
  rcases hg with rfl | rfl | rfl | rfl | rfl | rfl <;> simp only at h1 h2 <;> omega) (fun c11 a11 w11 d11 hv11 hc11 hz11 hR11 hs11 => ?_)
 have hs11 := hs11.sub (gs := [⟨11,w9.heap.size,fun b => w9.heap.size ≤ b ∧ b < w10.heap.size,.i (1 + 2 * (us.length : Int))⟩,⟨0,w.heap.size,fun b => b < w.heap.size,rs2 us⟩,⟨1,w.heap.size,fun b => b < w.heap.size,.i (fee)⟩,⟨6,w4.heap.size,fun b => w4.heap.size ≤ b ∧ b < w5.heap.size,.sl 1 (G.map eN)⟩,⟨7,w4.heap.size,fun b => w4.heap.size ≤ b ∧ b < w5.heap.size,.i (v)⟩,⟨9,w6.heap.size,fun b => w6.heap.size ≤ b ∧ b < w7.heap.size,.sl 1 (G.map eN)⟩,⟨10,w6.heap.size,fun b => w6.heap.size ≤ b ∧ b < w7.heap.size,.i (v)⟩]) (fun g hg => hs11.so g (List.mem_cons_of_mem _ hg))
 replace hs11 := hs11.sub (gs := [⟨0,w.heap.size,fun b => b < w.heap.size,rs2 us⟩,⟨1,w.heap.size,fun b => b < w.heap.size,.i (fee)⟩,⟨6,w4.heap.size,fun b => w4.heap.size ≤ b ∧ b < w5.heap.size,.sl 1 (G.map eN)⟩,⟨7,w4.heap.size,fun b => w4.heap.size ≤ b ∧ b < w5.heap.size,.i (v)⟩,⟨9,w6.heap.size,fun b => w6.heap.size ≤ b ∧ b < w7.heap.size,.sl 1 (G.map eN)⟩,⟨10,w6.heap.size,fun b => w6.heap.size ≤ b ∧ b < w7.heap.size,.i (v)⟩,⟨11,w9.heap.size,fun b => w9.heap.size ≤ b ∧ b < w10.heap.size,.i (1 + 2 * (us.length : Int))⟩]) (by
  intro g hg
  refine hs11.so g ?_
  simp only [List.mem_cons,List.not_mem_nil,or_false] at hg ⊢
  rcases hg with rfl | rfl | rfl | rfl | rfl | rfl | rfl <;> simp)
 refine hs11.base hS (l1 := IBestRounds_11) (l2 := RBestRounds_12) hv11 hc11 rfl [⟨0,w.heap.size,fun b => b < w.heap.size,rs2 us⟩,⟨1,w.heap.size,fun b => b < w.heap.size,.i (fee)⟩,⟨6,w4.heap.size,fun b => w4.heap.size ≤ b ∧ b < w5.heap.size,.sl 1 (G.map eN)⟩,⟨7,w4.heap.size,fun b => w4.heap.size ≤ b ∧ b < w5.heap.size,.i (v)⟩,⟨9,w6.heap.size,fun b => w6.heap.size ≤ b ∧ b < w7.heap.size,.sl 1 (G.map eN)⟩] (by
  intro f hf
  simp only [List.mem_cons,List.not_mem_nil,or_false] at hf
  rcases hf with rfl | rfl | rfl | rfl | rfl <;> exact ⟨by simp,by dsimp only; decide⟩) [] (by
  simp only [envF,List.map_cons,List.map_nil,DV.lend,rs2,rss,lend_e2,lend_eN,lend_eR,lend_e3,lend_ints_]
  exact sBestRounds_11 hu hG hT hR C1 C2) (fun c12 a12 w12 hv12 hc12 hz12 hs12 => ?_)
 replace hs12 := hs12.sub (gs := [⟨0,w.heap.size,fun b => b < w.heap.size,rs2 us⟩,⟨1,w.heap.size,fun b => b < w.heap.size,.i (fee)⟩,⟨6,w4.heap.size,fun b => w4.heap.size ≤ b ∧ b < w5.heap.size,.sl 1 (G.map eN)⟩,⟨7,w4.heap.size,fun b => w4.heap.size ≤ b ∧ b < w5.heap.size,.i (v)⟩,⟨9,w6.heap.size,fun b => w6.heap.size ≤ b ∧ b < w7.heap.size,.sl 1 (G.map eN)⟩]) (by
  intro g hg
  refine hs12.so g ?_
  simp only [List.cons_append,List.nil_append,List.map_cons,List.map_nil,newF]
  simp only [List.mem_cons,List.not_mem_nil,or_false] at hg ⊢
  rcases hg with rfl | rfl | rfl | rfl | rfl <;> simp)
 refine hs12.base hS (l1 := IBestRounds_12) (l2 := RBestRounds_13) hv12 hc12 rfl [⟨0,w.heap.size,fun b => b < w.heap.size,rs2 us⟩,⟨1,w.heap.size,fun b => b < w.heap.size,.i (fee)⟩,⟨6,w4.heap.size,fun b => w4.heap.size ≤ b ∧ b < w5.heap.size,.sl 1 (G.map eN)⟩,⟨7,w4.heap.size,fun b => w4.heap.size ≤ b ∧ b < w5.heap.size,.i (v)⟩,⟨9,w6.heap.size,fun b => w6.heap.size ≤ b ∧ b < w7.heap.size,.sl 1 (G.map eN)⟩] (by
  intro f hf
  simp only [List.mem_cons,List.not_mem_nil,or_false] at hf
  rcases hf with rfl | rfl | rfl | rfl | rfl <;> exact ⟨by simp,by dsimp only; decide⟩) [(12,.i (1))] (by
  simp only [envF,List.map_cons,List.map_nil,DV.lend,rs2,rss,lend_e2,lend_eN,lend_eR,lend_e3,lend_ints_]
  exact sBestRounds_12 hu hG hT hR C1 C2) (fun c13 a13 w13 hv13 hc13 hz13 hs13 => ?_)
 replace hs13 := hs13.sub (gs := [⟨0,w.heap.size,fun b => b < w.heap.size,rs2 us⟩,⟨1,w.heap.size,fun b => b < w.heap.size,.i (fee)⟩,⟨6,w4.heap.size,fun b => w4.heap.size ≤ b ∧ b < w5.heap.size,.sl 1 (G.map eN)⟩,⟨7,w4.heap.size,fun b => w4.heap.size ≤ b ∧ b < w5.heap.size,.i (v)⟩,⟨9,w6.heap.size,fun b => w6.heap.size ≤ b ∧ b < w7.heap.size,.sl 1 (G.map eN)⟩,⟨12,w12.heap.size,fun b => w12.heap.size ≤ b ∧ b < w13.heap.size,.i (1)⟩]) (by
  intro g hg
  refine hs13.so g ?_
  simp only [List.cons_append,List.nil_append,List.map_cons,List.map_nil,newF]
  simp only [List.mem_cons,List.not_mem_nil,or_false] at hg ⊢
  rcases hg with rfl | rfl | rfl | rfl | rfl | rfl <;> simp)
 refine hs13.markS hv13 hc13 (x := 9) (x2 := 66) (k := 12) (k2 := 67) (r := 68) (l2 := RBestRounds_14) (List.mem_of_getElem? (i := 4) rfl) (List.mem_of_getElem? (i := 5) rfl) (rows_markIntSS hok hD hB G 1 (by omega) (by omega) (by omega) (by omega)) (by omega) (fun b h => h.1) (by decide) [⟨0,w.heap.size,fun b => b < w.heap.size,rs2 us⟩,⟨1,w.heap.size,fun b => b < w.heap.size,.i (fee)⟩,⟨6,w4.heap.size,fun b => w4.heap.size ≤ b ∧ b < w5.heap.size,.sl 1 (G.map eN)⟩,⟨7,w4.heap.size,fun b => w4.heap.size ≤ b ∧ b < w5.heap.size,.i (v)⟩] (by
  intro g hg
  simp only [List.mem_cons,List.not_mem_nil,or_false] at hg
  rcases hg with rfl | rfl | rfl | rfl <;> exact ⟨by simp,by dsimp only; decide,by dsimp only; decide,by dsimp only; decide,by dsimp only; decide⟩) (by
  intro g hg b h1 h2
  simp only [List.mem_cons,List.not_mem_nil,or_false] at hg
  rcases hg with rfl | rfl | rfl | rfl <;> simp only at h1 h2 <;> omega) (fun c14 a14 w14 d14 hv14 hc14 hz14 hR14 hs14 => ?_)
 obtain ⟨ss,rfl,_,hss⟩ := hR14
 have hss := hss hDst
 subst hss
 rw [show dRs (mrkR 1 G) = DV.sl 1 ((mrkR 1 G).map eN) from rfl] at hs14
 replace hs14 := hs14.sub (gs := [⟨0,w.heap.size,fun b => b < w.heap.size,rs2 us⟩,⟨1,w.heap.size,fun b => b < w.heap.size,.i (fee)⟩,⟨6,w4.heap.size,fun b => w4.heap.size ≤ b ∧ b < w5.heap.size,.sl 1 (G.map eN)⟩,⟨7,w4.heap.size,fun b => w4.heap.size ≤ b ∧ b < w5.heap.size,.i (v)⟩,⟨9,w6.heap.size,fun b => w6.heap.size ≤ b ∧ b < w7.heap.size,.sl 1 ((mrkR 1 G).map eN)⟩,⟨12,w12.heap.size,fun b => w12.heap.size ≤ b ∧ b < w13.heap.size,.i (1 + (totR G : Int))⟩]) (by
  intro g hg
  refine hs14.so g ?_
  simp only [List.mem_cons,List.not_mem_nil,or_false] at hg ⊢
  rcases hg with rfl | rfl | rfl | rfl | rfl | rfl <;> simp)
 refine hs14.base hS (l1 := IBestRounds_14) (l2 := RBestRounds_15) hv14 hc14 rfl [⟨0,w.heap.size,fun b => b < w.heap.size,rs2 us⟩,⟨1,w.heap.size,fun b => b < w.heap.size,.i (fee)⟩,⟨6,w4.heap.size,fun b => w4.heap.size ≤ b ∧ b < w5.heap.size,.sl 1 (G.map eN)⟩,⟨7,w4.heap.size,fun b => w4.heap.size ≤ b ∧ b < w5.heap.size,.i (v)⟩,⟨9,w6.heap.size,fun b => w6.heap.size ≤ b ∧ b < w7.heap.size,.sl 1 ((mrkR 1 G).map eN)⟩,⟨12,w12.heap.size,fun b => w12.heap.size ≤ b ∧ b < w13.heap.size,.i (1 + (totR G : Int))⟩] (by
  intro f hf
  simp only [List.mem_cons,List.not_mem_nil,or_false] at hf
  rcases hf with rfl | rfl | rfl | rfl | rfl | rfl <;> exact ⟨by simp,by dsimp only; decide⟩) [(13,.i (1))] (by
  simp only [envF,List.map_cons,List.map_nil,DV.lend,rs2,rss,lend_e2,lend_eN,lend_eR,lend_e3,lend_ints_]
  exact sBestRounds_14 hu hG hT hR C1 C2) (fun c15 a15 w15 hv15 hc15 hz15 hs15 => ?_)
 replace hs15 := hs15.sub (gs := [⟨0,w.heap.size,fun b => b < w.heap.size,rs2 us⟩,⟨1,w.heap.size,fun b => b < w.heap.size,.i (fee)⟩,⟨6,w4.heap.size,fun b => w4.heap.size ≤ b ∧ b < w5.heap.size,.sl 1 (G.map eN)⟩,⟨7,w4.heap.size,fun b => w4.heap.size ≤ b ∧ b < w5.heap.size,.i (v)⟩,⟨9,w6.heap.size,fun b => w6.heap.size ≤ b ∧ b < w7.heap.size,.sl 1 ((mrkR 1 G).map eN)⟩,⟨12,w12.heap.size,fun b => w12.heap.size ≤ b ∧ b < w13.heap.size,.i (1 + (totR G : Int))⟩,⟨13,w14.heap.size,fun b => w14.heap.size ≤ b ∧ b < w15.heap.size,.i (1)⟩]) (by
  intro g hg
  refine hs15.so g ?_
  simp only [List.cons_append,List.nil_append,List.map_cons,List.map_nil,newF]
  simp only [List.mem_cons,List.not_mem_nil,or_false] at hg ⊢
  rcases hg with rfl | rfl | rfl | rfl | rfl | rfl | rfl <;> simp)
 refine hs15.base hS (l1 := IBestRounds_15) (l2 := RBestRounds_16) hv15 hc15 rfl [⟨0,w.heap.size,fun b => b < w.heap.size,rs2 us⟩,⟨1,w.heap.size,fun b => b < w.heap.size,.i (fee)⟩,⟨6,w4.heap.size,fun b => w4.heap.size ≤ b ∧ b < w5.heap.size,.sl 1 (G.map eN)⟩,⟨7,w4.heap.size,fun b => w4.heap.size ≤ b ∧ b < w5.heap.size,.i (v)⟩,⟨9,w6.heap.size,fun b => w6.heap.size ≤ b ∧ b < w7.heap.size,.sl 1 ((mrkR 1 G).map eN)⟩,⟨12,w12.heap.size,fun b => w12.heap.size ≤ b ∧ b < w13.heap.size,.i (1 + (totR G : Int))⟩] (by
  intro f hf
  simp only [List.mem_cons,List.not_mem_nil,or_false] at hf
  rcases hf with rfl | rfl | rfl | rfl | rfl | rfl <;> exact ⟨by simp,by dsimp only; decide⟩) [(13,.i (1 + (totR G : Int)))] (by
  simp only [envF,List.map_cons,List.map_nil,DV.lend,rs2,rss,lend_e2,lend_eN,lend_eR,lend_e3,lend_ints_]
  exact sBestRounds_15 hu hG hT hR C1 C2) (fun c16 a16 w16 hv16 hc16 hz16 hs16 => ?_)
 replace hs16 := hs16.sub (gs := [⟨0,w.heap.size,fun b => b < w.heap.size,rs2 us⟩,⟨1,w.heap.size,fun b => b < w.heap.size,.i (fee)⟩,⟨6,w4.heap.size,fun b => w4.heap.size ≤ b ∧ b < w5.heap.size,.sl 1 (G.map eN)⟩,⟨7,w4.heap.size,fun b => w4.heap.size ≤ b ∧ b < w5.heap.size,.i (v)⟩,⟨9,w6.heap.size,fun b => w6.heap.size ≤ b ∧ b < w7.heap.size,.sl 1 ((mrkR 1 G).map eN)⟩,⟨12,w12.heap.size,fun b => w12.heap.size ≤ b ∧ b < w13.heap.size,.i (1 + (totR G : Int))⟩,⟨13,w15.heap.size,fun b => w15.heap.size ≤ b ∧ b < w16.heap.size,.i (1 + (totR G : Int))⟩]) (by
  intro g hg
  refine hs16.so g ?_
  simp only [List.cons_append,List.nil_append,List.map_cons,List.map_nil,newF]
  simp only [List.mem_cons,List.not_mem_nil,or_false] at hg ⊢
  rcases hg with rfl | rfl | rfl | rfl | rfl | rfl | rfl <;> simp)
 refine hs16.base hS (l1 := IBestRounds_16) (l2 := RBestRounds_17) hv16 hc16 rfl [⟨0,w.heap.size,fun b => b < w.heap.size,rs2 us⟩,⟨1,w.heap.size,fun b => b < w.heap.size,.i (fee)⟩,⟨6,w4.heap.size,fun b => w4.heap.size ≤ b ∧ b < w5.heap.size,.sl 1 (G.map eN)⟩,⟨7,w4.heap.size,fun b => w4.heap.size ≤ b ∧ b < w5.heap.size,.i (v)⟩,⟨9,w6.heap.size,fun b => w6.heap.size ≤ b ∧ b < w7.heap.size,.sl 1 ((mrkR 1 G).map eN)⟩,⟨12,w12.heap.size,fun b => w12.heap.size ≤ b ∧ b < w13.heap.size,.i (1 + (totR G : Int))⟩,⟨13,w15.heap.size,fun b => w15.heap.size ≤ b ∧ b < w16.heap.size,.i (1 + (totR G : Int))⟩] (by
  intro f hf
  simp only [List.mem_cons,List.not_mem_nil,or_false] at hf
  rcases hf with rfl | rfl | rfl | rfl | rfl | rfl | rfl <;> exact ⟨by simp,by dsimp only; decide⟩) [] (by
  simp only [envF,List.map_cons,List.map_nil,DV.lend,rs2,rss,lend_e2,lend_eN,lend_eR,lend_e3,lend_ints_]
  exact sBestRounds_16 hu hG hT hR C1 C2) (fun c17 a17 w17 hv17 hc17 hz17 hs17 => ?_)
 replace hs17 := hs17.sub (gs := [⟨0,w.heap.size,fun b => b < w.heap.size,rs2 us⟩,⟨1,w.heap.size,fun b => b < w.heap.size,.i (fee)⟩,⟨6,w4.heap.size,fun b => w4.heap.size ≤ b ∧ b < w5.heap.size,.sl 1 (G.map eN)⟩,⟨7,w4.heap.size,fun b => w4.heap.size ≤ b ∧ b < w5.heap.size,.i (v)⟩,⟨9,w6.heap.size,fun b => w6.heap.size ≤ b ∧ b < w7.heap.size,.sl 1 ((mrkR 1 G).map eN)⟩,⟨12,w12.heap.size,fun b => w12.heap.size ≤ b ∧ b < w13.heap.size,.i (1 + (totR G : Int))⟩,⟨13,w15.heap.size,fun b => w15.heap.size ≤ b ∧ b < w16.heap.size,.i (1 + (totR G : Int))⟩]) (by
  intro g hg
  refine hs17.so g ?_
  simp only [List.cons_append,List.nil_append,List.map_cons,List.map_nil,newF]
  simp only [List.mem_cons,List.not_mem_nil,or_false] at hg ⊢
  rcases hg with rfl | rfl | rfl | rfl | rfl | rfl | rfl <;> simp)
 refine hs17.base hS (l1 := IBestRounds_17) (l2 := RBestRounds_18) hv17 hc17 rfl [⟨0,w.heap.size,fun b => b < w.heap.size,rs2 us⟩,⟨1,w.heap.size,fun b => b < w.heap.size,.i (fee)⟩,⟨6,w4.heap.size,fun b => w4.heap.size ≤ b ∧ b < w5.heap.size,.sl 1 (G.map eN)⟩,⟨7,w4.heap.size,fun b => w4.heap.size ≤ b ∧ b < w5.heap.size,.i (v)⟩,⟨9,w6.heap.size,fun b => w6.heap.size ≤ b ∧ b < w7.heap.size,.sl 1 ((mrkR 1 G).map eN)⟩,⟨12,w12.heap.size,fun b => w12.heap.size ≤ b ∧ b < w13.heap.size,.i (1 + (totR G : Int))⟩] (by
  intro f hf
  simp only [List.mem_cons,List.not_mem_nil,or_false] at hf
  rcases hf with rfl | rfl | rfl | rfl | rfl | rfl <;> exact ⟨by simp,by dsimp only; decide⟩) [] (by
  simp only [envF,List.map_cons,List.map_nil,DV.lend,rs2,rss,lend_e2,lend_eN,lend_eR,lend_e3,lend_ints_]
  exact sBestRounds_17 hu hG hT hR C1 C2) (fun c18 a18 w18 hv18 hc18 hz18 hs18 => ?_)
 replace hs18 := hs18.sub (gs := [⟨0,w.heap.size,fun b => b < w.heap.size,rs2 us⟩,⟨1,w.heap.size,fun b => b < w.heap.size,.i (fee)⟩,⟨6,w4.heap.size,fun b => w4.heap.size ≤ b ∧ b < w5.heap.size,.sl 1 (G.map eN)⟩,⟨7,w4.heap.size,fun b => w4.heap.size ≤ b ∧ b < w5.heap.size,.i (v)⟩,⟨9,w6.heap.size,fun b => w6.heap.size ≤ b ∧ b < w7.heap.size,.sl 1 ((mrkR 1 G).map eN)⟩,⟨12,w12.heap.size,fun b => w12.heap.size ≤ b ∧ b < w13.heap.size,.i (1 + (totR G : Int))⟩]) (by
  intro g hg
  refine hs18.so g ?_
  simp only [List.cons_append,List.nil_append,List.map_cons,List.map_nil,newF]
  simp only [List.mem_cons,List.not_mem_nil,or_false] at hg ⊢
  rcases hg with rfl | rfl | rfl | rfl | rfl | rfl <;> simp)
 refine hs18.base hS (l1 := IBestRounds_18) (l2 := RBestRounds_19) hv18 hc18 rfl [⟨6,w4.heap.size,fun b => w4.heap.size ≤ b ∧ b < w5.heap.size,.sl 1 (G.map eN)⟩,⟨7,w4.heap.size,fun b => w4.heap.size ≤ b ∧ b < w5.heap.size,.i (v)⟩,⟨9,w6.heap.size,fun b => w6.heap.size ≤ b ∧ b < w7.heap.size,.sl 1 ((mrkR 1 G).map eN)⟩,⟨12,w12.heap.size,fun b => w12.heap.size ≤ b ∧ b < w13.heap.size,.i (1 + (totR G : Int))⟩] (by
  intro f hf
  simp only [List.mem_cons,List.not_mem_nil,or_false] at hf
  rcases hf with rfl | rfl | rfl | rfl <;> exact ⟨by simp,by dsimp only; decide⟩) [(14,.sl 1 (G.map eN)),(15,.i (v))] (by
  simp only [envF,List.map_cons,List.map_nil,DV.lend,rs2,rss,lend_e2,lend_eN,lend_eR,lend_e3,lend_ints_]
  exact sBestRounds_18 hu hG hT hR C1 C2) (fun c19 a19 w19 hv19 hc19 hz19 hs19 => ?_)
 replace hs19 := hs19.sub (gs := [⟨6,w4.heap.size,fun b => w4.heap.size ≤ b ∧ b < w5.heap.size,.sl 1 (G.map eN)⟩,⟨7,w4.heap.size,fun b => w4.heap.size ≤ b ∧ b < w5.heap.size,.i (v)⟩,⟨9,w6.heap.size,fun b => w6.heap.size ≤ b ∧ b < w7.heap.size,.sl 1 ((mrkR 1 G).map eN)⟩,⟨12,w12.heap.size,fun b => w12.heap.size ≤ b ∧ b < w13.heap.size,.i (1 + (totR G : Int))⟩,⟨14,w18.heap.size,fun b => w18.heap.size ≤ b ∧ b < w19.heap.size,.sl 1 (G.map eN)⟩,⟨15,w18.heap.size,fun b => w18.heap.size ≤ b ∧ b < w19.heap.size,.i (v)⟩]) (by
  intro g hg
  refine hs19.so g ?_
  simp only [List.cons_append,List.nil_append,List.map_cons,List.map_nil,newF]
  simp only [List.mem_cons,List.not_mem_nil,or_false] at hg ⊢
  rcases hg with rfl | rfl | rfl | rfl | rfl | rfl <;> simp)
 refine hs19.base hS (l1 := IBestRounds_19) (l2 := RBestRounds_20) hv19 hc19 rfl [⟨9,w6.heap.size,fun b => w6.heap.size ≤ b ∧ b < w7.heap.size,.sl 1 ((mrkR 1 G).map eN)⟩,⟨12,w12.heap.size,fun b => w12.heap.size ≤ b ∧ b < w13.heap.size,.i (1 + (totR G : Int))⟩] (by
  intro f hf
  simp only [List.mem_cons,List.not_mem_nil,or_false] at hf
  rcases hf with rfl | rfl <;> exact ⟨by simp,by dsimp only; decide⟩) [] (by
  simp only [envF,List.map_cons,List.map_nil,DV.lend,rs2,rss,lend_e2,lend_eN,lend_eR,lend_e3,lend_ints_]
  exact sBestRounds_19 hu hG hT hR C1 C2) (fun c20 a20 w20 hv20 hc20 hz20 hs20 => ?_)
 replace hs20 := hs20.sub (gs := [⟨9,w6.heap.size,fun b => w6.heap.size ≤ b ∧ b < w7.heap.size,.sl 1 ((mrkR 1 G).map eN)⟩,⟨12,w12.heap.size,fun b => w12.heap.size ≤ b ∧ b < w13.heap.size,.i (1 + (totR G : Int))⟩]) (by
  intro g hg
  refine hs20.so g ?_
  simp only [List.cons_append,List.nil_append,List.map_cons,List.map_nil,newF]
  simp only [List.mem_cons,List.not_mem_nil,or_false] at hg ⊢
  rcases hg with rfl | rfl <;> simp)
 refine hs20.base hS (l1 := IBestRounds_20) (l2 := RBestRounds_21) hv20 hc20 rfl [⟨9,w6.heap.size,fun b => w6.heap.size ≤ b ∧ b < w7.heap.size,.sl 1 ((mrkR 1 G).map eN)⟩,⟨12,w12.heap.size,fun b => w12.heap.size ≤ b ∧ b < w13.heap.size,.i (1 + (totR G : Int))⟩] (by
  intro f hf
  simp only [List.mem_cons,List.not_mem_nil,or_false] at hf
  rcases hf with rfl | rfl <;> exact ⟨by simp,by dsimp only; decide⟩) [(13,.i (1))] (by
  simp only [envF,List.map_cons,List.map_nil,DV.lend,rs2,rss,lend_e2,lend_eN,lend_eR,lend_e3,lend_ints_]
  exact sBestRounds_20 hu hG hT hR C1 C2) (fun c21 a21 w21 hv21 hc21 hz21 hs21 => ?_)
 replace hs21 := hs21.sub (gs := [⟨9,w6.heap.size,fun b => w6.heap.size ≤ b ∧ b < w7.heap.size,.sl 1 ((mrkR 1 G).map eN)⟩,⟨12,w12.heap.size,fun b => w12.heap.size ≤ b ∧ b < w13.heap.size,.i (1 + (totR G : Int))⟩,⟨13,w20.heap.size,fun b => w20.heap.size ≤ b ∧ b < w21.heap.size,.i (1)⟩]) (by
  intro g hg
  refine hs21.so g ?_
  simp only [List.cons_append,List.nil_append,List.map_cons,List.map_nil,newF]
  simp only [List.mem_cons,List.not_mem_nil,or_false] at hg ⊢
  rcases hg with rfl | rfl | rfl <;> simp)
 refine hs21.base hS (l1 := IBestRounds_21) (l2 := RBestRounds_22) hv21 hc21 rfl [⟨12,w12.heap.size,fun b => w12.heap.size ≤ b ∧ b < w13.heap.size,.i (1 + (totR G : Int))⟩] (by
  intro f hf
  simp only [List.mem_cons,List.not_mem_nil,or_false] at hf
  rcases hf with rfl <;> exact ⟨by simp,by dsimp only; decide⟩) [(13,.i (1 + (totR G : Int)))] (by
  simp only [envF,List.map_cons,List.map_nil,DV.lend,rs2,rss,lend_e2,lend_eN,lend_eR,lend_e3,lend_ints_]
  exact sBestRounds_21 hu hG hT hR C1 C2) (fun c22 a22 w22 hv22 hc22 hz22 hs22 => ?_)
 replace hs22 := hs22.sub (gs := [⟨12,w12.heap.size,fun b => w12.heap.size ≤ b ∧ b < w13.heap.size,.i (1 + (totR G : Int))⟩,⟨13,w21.heap.size,fun b => w21.heap.size ≤ b ∧ b < w22.heap.size,.i (1 + (totR G : Int))⟩]) (by
  intro g hg
  refine hs22.so g ?_
  simp only [List.cons_append,List.nil_append,List.map_cons,List.map_nil,newF]
  simp only [List.mem_cons,List.not_mem_nil,or_false] at hg ⊢
  rcases hg with rfl | rfl <;> simp)
 refine hs22.base hS (l1 := IBestRounds_22) (l2 := RBestRounds_23) hv22 hc22 rfl [⟨12,w12.heap.size,fun b => w12.heap.size ≤ b ∧ b < w13.heap.size,.i (1 + (totR G : Int))⟩,⟨13,w21.heap.size,fun b => w21.heap.size ≤ b ∧ b < w22.heap.size,.i (1 + (totR G : Int))⟩] (by
  intro f hf
  simp only [List.mem_cons,List.not_mem_nil,or_false] at hf
  rcases hf with rfl | rfl <;> exact ⟨by simp,by dsimp only; decide⟩) [] (by
  simp only [envF,List.map_cons,List.map_nil,DV.lend,rs2,rss,lend_e2,lend_eN,lend_eR,lend_e3,lend_ints_]
  exact sBestRounds_22 hu hG hT hR C1 C2) (fun c23 a23 w23 hv23 hc23 hz23 hs23 => ?_)
 replace hs23 := hs23.sub (gs := [⟨12,w12.heap.size,fun b => w12.heap.size ≤ b ∧ b < w13.heap.size,.i (1 + (totR G : Int))⟩,⟨13,w21.heap.size,fun b => w21.heap.size ≤ b ∧ b < w22.heap.size,.i (1 + (totR G : Int))⟩]) (by
  intro g hg
  refine hs23.so g ?_
  simp only [List.cons_append,List.nil_append,List.map_cons,List.map_nil,newF]
  simp only [List.mem_cons,List.not_mem_nil,or_false] at hg ⊢
  rcases hg with rfl | rfl <;> simp)
 refine hs23.base hS (l1 := IBestRounds_23) (l2 := RBestRounds_24) hv23 hc23 rfl [] (by
  intro f hf
  cases hf) [] (by
  simp only [envF,List.map_cons,List.map_nil,DV.lend,rs2,rss,lend_e2,lend_eN,lend_eR,lend_e3,lend_ints_]
  exact sBestRounds_23 hu hG hT hR C1 C2) (fun c24 a24 w24 hv24 hc24 hz24 hs24 => ?_)
 refine hs24.base hS (l1 := IBestRounds_24) (l2 := RBestRounds_25) hv24 hc24 rfl [] (by
  intro f hf
  cases hf) [(4,.b true)] (by
  simp only [envF,List.map_cons,List.map_nil,DV.lend,rs2,rss,lend_e2,lend_eN,lend_eR,lend_e3,lend_ints_]
  exact sBestRounds_24 hu hG hT hR C1 C2) (fun c25 a25 w25 hv25 hc25 hz25 hs25 => ?_)
 replace hs25 := hs25.sub (gs := [⟨4,w24.heap.size,fun b => w24.heap.size ≤ b ∧ b < w25.heap.size,.b true⟩]) (by
  intro g hg
  refine hs25.so g ?_
  simp only [List.cons_append,List.nil_append,List.map_cons,List.map_nil,newF]
  simp only [List.mem_cons,List.not_mem_nil,or_false] at hg ⊢
  rcases hg with rfl <;> simp)
 exact law_ret hv25 hs25 rfl
end
end
end Zz
