/- What the functions answer, as equations: EA. No conditions. -/
import Derived.Test.YtffghabijlfpeaaIrzs
import Derived.Test.YtffghabijlfpeaaE0
import Derived.Test.YtffghabijlfpeaaLgEzs
import Derived.Test.YtffghabijlfpeaaLgFzs
set_option linter.unusedSectionVars false
set_option linter.unusedVariables false
set_option linter.unusedSimpArgs false
namespace Zz
open Go.Lg Md
set_option linter.unusedSimpArgs false
set_option linter.unusedVariables false
attribute [local simp] tm_mv tm_newnil tm_pick tm_bin tm_eqb tm_eqs tm_un tm_len tm_lens tm_chk tm_fld tm_fldv tm_idxa tm_idx tm_load tm_store tm_slice tm_slices tm_make tm_alloc tm_box tm_build tm_app tm_conv tm_ext tm_call tm_calld tm_mkfn tm_mm tm_idxp tm_eqn tm_callg tm_callm tm_bslice0 tm_bslice1 tm_bslice2 tm_bslice cw_nil cw_cons cd_none cd_some ec_nil ec_cons es_nil es_one es_more nn_nil nn_cons ns_nil ns_cons si_nil si_cons sk_t stod_oad stod_own stod_adr stod_dead ml_nil ml_cons nt_nil nt_cons nc_nil' nc_cons sa_mkfn cv_adr cv_i cv_y cv_b cv_w sa_calld nm_def nh_nil nh_cons nxM_some nxM_none sc_st sd_i sd_y sd_b sd_s sd_w sd_q sc_i sc_y sc_b sc_s sc_w sc_q sa_bslice sa_app nc_own nc_nil sa_call sa_alloc sa_build sa_callm rm_nil rm_one rm_gen bq_mul bq_eql ia_mv ia_newnil ia_pick ia_bin ia_eqb ia_eqs ia_un ia_len ia_lens ia_chk ia_fld ia_fldv ia_idxa ia_idx ia_load ia_store ia_slice ia_slices ia_make ia_alloc ia_box ia_build ia_bslice ia_app ia_b2i ia_i2b ia_i2i ia_same ia_b2s ia_s2b ia_ext ia_mm ia_idxp ia_calld ia_mkfn ia_i2r ia_r2s ia_call pt_nil pt_cons mi_nil mi_cons md_bslice md_mv md_newnil md_pick md_bin md_eqb md_un md_len md_lens md_fld md_fldv md_idxa md_idx md_load md_store md_slice md_slices md_make md_alloc md_box md_build md_app md_conv md_ext md_call md_calld md_callg md_mkfn md_mm md_idxp md_eqn md_eqs md_chk tg_bslice tg_mv tg_newnil tg_pick tg_bin tg_eqb tg_un tg_len tg_lens tg_fld tg_fldv tg_idxa tg_idx tg_load tg_store tg_slice tg_slices tg_make tg_alloc tg_box tg_build tg_app tg_conv tg_ext tg_call tg_calld tg_callg tg_mkfn tg_mm tg_idxp tg_eqn tg_eqs tg_chk rp_eq ro_eq ifP_t ifP_f np_def ng1_nil ng2_nil ng_gate ng_gen tgA_t tgA_0 tgA_1 tgA_2 aC_nil aC_c aC_t rS_def nb_def tv_b2i tv_i2b tv_i2i tv_s2b tv_b2s tv_same tv_i2r tv_r2s tv_i2q tv_q2i tv_q2q nxZ_some nxZ_none rz_nil rz_gen nxP_some nxP_none rq_nil rq_gen rq_gate nxR_some nxR_none ru_nil ru_gen ru_gate pl_none pl_some gt_nil gt_t gt_c di_some di_none an_nil an_cons nxG_some nxG_none rg_nil rg_gen rg_gate oldO_some oa_nil oa_i oa_y oa_b oa_s oa_st oa_sl oa_own oa_oad oa_nl al_nil al_cons al_i al_y al_b al_s al_st al_sl nxF_some nxF_none rf_nil rf_gen rf_gate hk_newnil hk_make hk_alloc hk_box hk_build hk_bslice hk_call hk_store hk_app hk_appn em_cel mm_cel ok_cel ov_cel so_cel il_cel oi_cel oj_cel ol_cel nm_cel hk_appc ef_bslice5 ef_app_cel ks_shut shu_own shc_none shc_cel cl_nil cl_cons ai_nil ai_cons il_i il_y il_b il_s il_st il_sl il_own il_adr il_oad il_ref il_fr il_tup il_nil il_np il_und il_dead ol_adr ol_b ol_dead ol_e ol_fn ol_fr ol_i ol_nil ol_np ol_oad ol_own ol_q ol_r ol_ref ol_s ol_sl ol_st ol_tup ol_und ol_w ol_y oj_e oj_i oj_y oj_b oj_s oj_st oj_sl oj_own oj_adr oj_oad oj_ref oj_fr oj_tup oj_nil oj_np oj_und oj_dead oj_w oj_q oj_r oj_fn oi_e oi_i oi_y oi_b oi_s oi_st oi_sl oi_own oi_adr oi_oad oi_ref oi_fr oi_tup oi_nil oi_np oi_und oi_dead as_nil as_cons ao_nil ao_cons av_i av_y av_b av_s av_st av_sl av_own av_adr av_oad av_ref av_fr av_tup av_nil av_np av_und av_dead pro_cons ghK_some ks_promote ks_freeze frz_own ks_rename ren_own ks_cell cel_own dropO adoptP newP wholeP cutP allOldL ex_skip ex_ret ex_exit ks_region ks_seq ks_cut ks_cond ks_block seqK_n seqK_e seqK_r regK_some condK_t condK_f blkK_n blkK_r blkK_e endK_n endK_r rr_false rr_true rd_free mo_nil mo_cons drK_some drK_none nxW_some nxW_none rw_nil rw_gen rw_gate ak_newnil ak_make ak_alloc ak_box ak_build ak_bslice ak_call ak_store ak_app iw_mm iw_eqn iw_idxp ef_callg cgK_some gv_e gv_own gv_i gv_sl gv_st gv_b gv_nil gvK_some gvO_some iw_callg ia_callg ak_callg hk_callg is_mv is_newnil is_pick is_bin is_eqb is_eqs is_un is_len is_lens is_chk is_fld is_fldv is_idxa is_idx is_load is_slice is_slices is_make is_alloc is_box is_build is_bslice is_app is_conv is_ext is_call is_calld is_callg is_mkfn is_mm is_idxp is_eqn is_store rt_nil rt_gen rt_gate nxT_some nxT_none ef_eqn_nil ef_eqn_sl ef_eqn_own ia_eqn ef_mmx ef_mmn ef_idxp nxD_some nxD_none ov_i ov_y ov_b ov_s ov_st ov_sl ov_own ov_oad ov_adr ov_nil ov_np ov_und ov_dead ov_tup oldN_some oldN_nil oldN_none so_none so_tup DV.noM so_i so_y so_b so_s so_st so_sl so_adr so_nil so_np so_und so_dead anyM_nil anyM_t anyM_c so_own so_oad rd_nil rd_gen rd_mv rd_gate iw_mv iw_newnil iw_pick iw_bin iw_eqb iw_eqs iw_un iw_len iw_lens iw_chk iw_fld iw_fldv iw_idxa iw_idx iw_load iw_store iw_slice iw_slices iw_make iw_alloc iw_box iw_build iw_bslice iw_app iw_b2i iw_i2b iw_i2i iw_same iw_b2s iw_s2b iw_ext iw_call nm_i nm_y nm_b nm_s nm_st nm_sl nm_own nm_oad nm_adr nm_nil nm_np nm_und nm_dead nm_tup rl_nil rl_gate rl_mv rl_gen opv_t opv_c nx_some nx_none gate_tt gate_tf gate_ft gate_ff gate_u fr_ap em_nil em_i em_y em_b em_s em_st em_sl em_own em_adr em_oad em_ref em_nl em_np em_und em_dead em_tup0 em_tup_i em_tup_b em_tup_s em_tup_sl em_tup_st em_tup_np em_tup_own em_tup_oad mm_i mm_y mm_b mm_s mm_st mm_sl mm_own mm_oad mm_adr mm_nil mm_np mm_und mm_dead ef_mv ef_newnil ef_pickt ef_pickf ef_bin ef_eqb ef_eqs ef_un ef_lens ef_len_sl ef_len_own ef_len_nil ef_chk_adr ef_chk_oad ef_fld_adr ef_fld_oad ef_fldv idxR_some ef_idxa_sl ef_idxa_own ef_idx ef_load_adr_st ef_load_adr_i ef_load_adr_y ef_load_adr_b ef_load_adr_s ef_load_adr_sl atN_nil atN_zero atN_succ ef_load_oad ef_store ef_slice ef_slices ef_make ef_alloc ef_box ef_build ef_bslice ef_app_own ef_app_nil ef_b2i ef_i2b ef_i2i ef_same ef_ext ret1 ret2_some calL_some ef_call retC_i retC_y retC_b retC_s retC_st retC_sl retC_np retC_fr retC_ref retC_tup rk_nil rk_i rk_y rk_b rk_s rk_st rk_sl rk_own rk_oad rk_nl ok_nil ok_i ok_y ok_b ok_s ok_st ok_sl ok_own ok_oad ok_nl lo_nil lo_i lo_y lo_b lo_s lo_st lo_sl lo_own lo_oad lo_nl pr_nil pr_i pr_y pr_b pr_s pr_st pr_sl pr_own pr_nl pr_oad nr_i nr_y nr_b nr_s nr_st nr_sl nr_fr nr_np nr_tup ng_i ng_b ng_s ng_fr ng_nil resV effP_eff binD bi_add bi_sub bi_mul bi_quo bi_rem bi_eql bi_neq bi_lss bi_leq bi_gtr bi_geq bi_shl bi_shr bi_and bi_or bi_xor bi_andNot binY binS unD look put putD LS.get LS.drop killE sweep lookO putO dropO enter leave giveBackL giveBack outs lendArgs lendArg newOuts takeIn takeInL lendL DV.lend adoptL DV.adopt elems apartKs part DV.cells unpart settle settleL over mkId szId fillP fillE tk_e2 tk_i tk_y lt_e2 lt_i lt_y lend_rep al_e2 al_is al_ys al_rep al_app lend_app adopt_app new_app lend_e2 lend_i lend_y adopt_e2 adopt_i adopt_y new_e2 new_i allNewL DV.allNew bounds sliceD sliceS em_w em_q em_r em_fn em_tup_w em_tup_q em_tup_r mm_w mm_q mm_r mm_fn ef_load_adr_w ef_load_adr_q ef_load_adr_r retC_w retC_q retC_r rk_w rk_q rk_r rk_fn ok_w ok_q ok_r ok_fn lo_w lo_q lo_r lo_fn pr_w pr_q pr_r pr_fn nr_w nr_q nr_r ng_w ng_q ng_r oa_w oa_q oa_r oa_fn al_w al_q al_r al_fn ov_w ov_q ov_r ov_fn so_w so_q so_r so_fn il_w il_q il_r il_fn oi_w oi_q oi_r oi_fn av_w av_q av_r av_fn nm_w nm_q nm_r nm_fn ef_i2r ef_r2s ef_b2s bs_some ys_nil ys_cons ys_map ef_mkfn ef_mkbd ef_idxp_adr ef_idxp_q ef_calld_nil ef_calld_adr ef_calld_bd DV.capB capsOk DV.cell List.all_cons List.all_nil rk_own_t lo_own_t lk_f lk_t pr_own_t mutB ak_calld hk_calld iw_calld iw_mkfn iw_i2r iw_r2s bw_and bw_or bw_xor bw_andNot bw_eql bw_neq sw_shl sw_shr sq_shl gEnv_nil rk_adr ok_adr lo_adr pr_adr oa_adr capL capArg DV.cap ak_mkfn hk_mkfn hk_mkbd ef_callm gf_ap ga_nil ga_cons tgv_own gk_e gk_giv gk_i gk_y gk_b gk_s gk_w gk_q gk_r gk_fn gk_st gk_sl gk_own gk_oad gk_adr gk_nl gk_np rk_giv ok_giv lo_giv pr_giv oa_giv iw_callm hk_callm ak_callm is_callm ia_callm tg_callm md_callm ef_i2q ef_q2i ef_q2q iw_i2q iw_q2i iw_q2q ia_i2q ia_q2i ia_q2q bq_and bq_add bq_shr sq_shr tgv_nil gk_ref rk_ref ok_ref lo_ref pr_ref oa_ref retC_fn nr_fn ef_load_adr_fn ks_close cls_oad
attribute [local congr] nxM_congr ifP_congr nxP_congr nxZ_congr nxR_congr nxT_congr nxG_congr nxF_congr ghK_congr gate_congr nx_congr nxD_congr runL_congr runD_congr eff_congr calL_congr ret2_congr seqK_congr regK_congr condK_congr endK_congr drK_congr nxW_congr
attribute [local simp ↓] nxM_some rm_nil rm_one rm_gen nxT_some rt_nil rt_gen rt_gate nxZ_some rz_nil rz_gen nxP_some rq_nil rq_gen rq_gate nxR_some ru_nil ru_gen ru_gate nxG_some rg_nil rg_gen rg_gate nxF_some rf_nil rf_gen rf_gate ks_promote ks_freeze frz_own ks_rename ks_cell ghK_some gate_tt gate_tf gate_ft gate_ff gate_u nx_some nxD_some rl_nil rl_mv rl_gen rl_gate rd_nil rd_mv rd_gen rd_gate rd_free rr_false rr_true drK_some drK_none nxW_some rw_nil rw_gen rw_gate ks_region ks_seq ks_cut ks_cond ks_block seqK_n seqK_e seqK_r regK_some condK_t condK_f blkK_n blkK_r endK_n endK_r calL_some ret2_some opv_t opv_c
section
theorem c_impl_isWithin (a b c : Int) : call lf n_impl_isWithin [.i a,.i b,.i c] = some (.b (decide (b ≤ a ∧ a ≤ c)),[]) := by
 rw [call_k lf n_impl_isWithin _ (F := F_impl_isWithin) rfl rfl]
 by_cases h : b ≤ a <;> simp [F_impl_isWithin,h]
theorem c_spec_l1In (a b c : Int) : call lf n_spec_l1In [.i a,.i b,.i c] = some (.b (decide (b ≤ a ∧ a ≤ c)),[]) := by
 rw [call_k lf n_spec_l1In _ (F := F_spec_l1In) rfl rfl]
 by_cases h : b ≤ a <;> simp [F_spec_l1In,h]
theorem c_impl_manyOk (a : Int) : call lf n_impl_manyOk [.i a] = some (.b (nOk a),[]) := by
 rw [call_k lf n_impl_manyOk _ (F := F_impl_manyOk) rfl rfl]
 simp [F_impl_manyOk,c_impl_isWithin,nOk]

theorem l_impl_TestsOk (n : Int) (hb : n < 1099511627776) (es : List DV) (rest : List T) : ∀ k : Int,0 ≤ k → k + (rest.map e2).length = n → es.drop k.toNat = rest.map e2 →
  ex lf F_impl_TestsOk_W0 ⟨[(9,.sl 0 es),(10,.i n),(11,.i k)],[]⟩ =
  if rest.all tOk then some (.exit 0,⟨[(9,.sl 0 es),(10,.i n),(11,.i n)],[]⟩) else some (.ret,⟨[(2,.b false)],[]⟩) := by
 induction rest with
 | nil =>
  intro k h0 hn hd
  rw [w_impl_TestsOk_0]
  have hk : k = n := by simpa using hn
  simp [F_impl_TestsOk_L0,hk]
 | cons t rest ih =>
  intro k h0 hn hd
  obtain ⟨q1,q2,q3,q4,q5,q6⟩ := stp h0 hn hb hd
  have ih := ih (k + 1) q4 q5 q6
  simp only [e2] at q2
  rw [w_impl_TestsOk_0]
  have xt := tOk_def t
  cases x1 : decide (1 ≤ t.1 ∧ t.1 ≤ 9) <;> cases x2 : decide (1 ≤ t.2 ∧ t.2 ≤ 5) <;> rw [x1,x2] at xt <;> simp [F_impl_TestsOk_L0,q1,q2,q3,c_impl_isWithin,ih,xt,x1,x2,-List.all_eq_true]
theorem c_impl_TestsOk (ts : List T) (hb : (ts.length : Int) < 1099511627776) : call lf n_impl_TestsOk [.sl 0 (ts.map e2)] = some (.b (tsOk ts),[]) := by
 rw [call_k lf n_impl_TestsOk _ (F := F_impl_TestsOk) rfl rfl]
 have L := l_impl_TestsOk ts.length hb (ts.map e2) ts 0 (by omega) (by simp) (by simp)
 cases h1 : nOk ts.length <;> cases h2 : ts.all tOk <;> simp [F_impl_TestsOk,c_impl_manyOk,L,h1,h2,tsOk]

theorem l_spec_TestsOk (n : Int) (hb : n < 1099511627776) (es : List DV) (hE : (es.length : Int) = n) (rest : List T) : ∀ k : Int,0 ≤ k → k + (rest.map e2).length = n → es.drop k.toNat = rest.map e2 →
  ex lf F_spec_TestsOk_W0 ⟨[(0,.sl 0 es),(3,.i k)],[]⟩ =
  if rest.all tOk then some (.exit 0,⟨[(0,.sl 0 es),(3,.i n)],[]⟩) else some (.ret,⟨[(2,.b false)],[]⟩) := by
 induction rest with
 | nil =>
  intro k h0 hn hd
  rw [w_spec_TestsOk_0]
  have hk : k = n := by simpa using hn
  simp [F_spec_TestsOk_L0,hk,hE]
 | cons t rest ih =>
  intro k h0 hn hd
  obtain ⟨q1,q2,q3,q4,q5,q6⟩ := stp h0 hn hb hd
  have ih := ih (k + 1) q4 q5 q6
  simp only [e2] at q2
  rw [w_spec_TestsOk_0]
  have xt := tOk_def t
  cases x1 : decide (1 ≤ t.1 ∧ t.1 ≤ 9) <;> cases x2 : decide (1 ≤ t.2 ∧ t.2 ≤ 5) <;> rw [x1,x2] at xt <;> simp [F_spec_TestsOk_L0,q1,q2,q3,hE,c_spec_l1In,ih,xt,x1,x2,-List.all_eq_true]
theorem c_spec_TestsOk (ts : List T) (hb : (ts.length : Int) < 1099511627776) : call lf n_spec_TestsOk [.sl 0 (ts.map e2)] = some (.b (tsOk ts),[]) := by
 rw [call_k lf n_spec_TestsOk _ (F := F_spec_TestsOk) rfl rfl]
 have L := l_spec_TestsOk ts.length hb (ts.map e2) (by simp) ts 0 (by omega) (by simp) (by simp)
 cases h2 : ts.all tOk <;> simp [F_spec_TestsOk,c_spec_l1In,L,h2,tsOk,nOk]

theorem nOk_iff {a : Int} : nOk a = true ↔ 1 ≤ a ∧ a ≤ 5 := by simp [nOk]
theorem tsOk_iff {ts : List T} : tsOk ts = true ↔ (1 ≤ (ts.length : Int) ∧ (ts.length : Int) ≤ 5) ∧ ts.all tOk = true := by
 rw [tsOk,Bool.and_eq_true,nOk_iff]
end
section
theorem p2 {ts : List T} (h : tsOk ts = true) : 1 ≤ (2 : Nat) ^ ts.length ∧ (2 : Nat) ^ ts.length ≤ 32 ∧ ((2 ^ ts.length : Nat) : Int) = 2 ^ ts.length := by
 have h' := tsOk_iff.1 h
 have a : (2 : Nat) ^ ts.length ≤ 2 ^ 5 := Nat.pow_le_pow_right (by omega) (by omega)
 exact ⟨Nat.pow_pos (by omega),by omega,by simp⟩
theorem at_e2 {ts : List T} {i : Nat} (hi : i < ts.length) : ∃ t,ts[i]? = some t ∧ t ∈ ts ∧ atI (ts.map e2) i = some (.st [.i t.1,.i t.2]) ∧ ts.take (i + 1) = ts.take i ++ [t] := by
 refine ⟨ts[i],List.getElem?_eq_getElem hi,List.getElem_mem hi,?_,List.take_succ_eq_append_getElem hi⟩
 simp [atI,hi,e2]
def ot (ts : List T) (i : Nat) : List DV := ((ts.take i).map other).map e2
def cn (ts : List T) (i : Nat) : List DV := ot ts i ++ List.replicate (ts.length - i) (.st [.i 0,.i 0])
end
section
def ci (ts : List Int) (i : Nat) : List DV := (ts.take i).map .i ++ List.replicate (ts.length - i) (.i 0)
theorem ci_len {ts : List Int} {i : Nat} (hi : i ≤ ts.length) : (ci ts i).length = ts.length := by simp [ci]; omega
theorem ci_set {ts : List Int} {i : Nat} {t : Int} (hi : i < ts.length) (h : ts.take (i + 1) = ts.take i ++ [t]) : (ci ts i).set i (.i t) = ci ts (i + 1) := by
 have : ((ts.take i).map DV.i).length = i := by simp; omega
 unfold ci
 rw [List.set_append_right _ _ (by omega),this,Nat.sub_self,h,show ts.length - i = (ts.length - (i + 1)) + 1 by omega,List.replicate_succ,List.set_cons_zero,List.map_append,List.append_assoc]
 rfl
theorem ci_get {ts : List Int} {i : Nat} (hi : i < ts.length) : atN (ci ts i) i = some (.i 0) := by
 show (ci ts i)[i]? = _
 have : ((ts.take i).map DV.i).length = i := by simp; omega
 unfold ci
 rw [List.getElem?_append_right (by omega),this,Nat.sub_self,List.getElem?_replicate]
 simp; omega
theorem ci_zero (ts : List Int) : ci ts 0 = List.replicate ts.length (.i 0) := by simp [ci]
theorem ci_all (ts : List Int) : ci ts ts.length = ts.map .i := by simp [ci]
theorem at_i {ks : List Int} {i : Nat} (hi : i < ks.length) : ∃ k,ks[i]? = some k ∧ k ∈ ks ∧ atI (ks.map .i) i = some (.i k) ∧ ks.take (i + 1) = ks.take i ++ [k] := by
 refine ⟨ks[i],List.getElem?_eq_getElem hi,List.getElem_mem hi,?_,List.take_succ_eq_append_getElem hi⟩
 simp [atI,hi]
theorem c_toIntS (ts : List Int) (hb : (ts.length : Int) ≤ 1048576) : call lf n_laws_toIntS [.sl 0 (ts.map .i)] = some (.fr 1 (ts.map .i),[]) := by
 rw [call_k lf n_laws_toIntS _ (F := F_laws_toIntS) rfl rfl]
 have L : ex lf F_laws_toIntS_W0 ⟨[(0,.sl 0 (ts.map .i)),(3,.own 3592 ts.length 0 ts.length),(4,.i 0)],[(3592,ci ts 0)]⟩ =
   some (.exit 0,⟨[(0,.sl 0 (ts.map .i)),(3,.own 3592 ts.length 0 ts.length),(4,.i ts.length)],[(3592,ci ts ts.length)]⟩) := by
  refine loop_count ts.length (fun i => ⟨[(0,.sl 0 (ts.map .i)),(3,.own 3592 ts.length 0 ts.length),(4,.i i)],[(3592,ci ts i)]⟩) (fun i hi => ?_) ?_ (by simp)
  ·obtain ⟨t,q1,q2,q3,q4⟩ := at_i hi
   have w1 : wr ((i : Int) + 1) = (i : Int) + 1 := wr_id (by omega) (by omega)
   have c1 := ci_len (ts := ts) (i := i) (by omega)
   have c2 := ci_get hi
   have c3 := ci_set hi q4
   simp [F_laws_toIntS_L0,hi,q3,w1,c1,c2,c3]
  ·simp [F_laws_toIntS_L0]
 have b1 : (ts.length : Int) ≤ bound := by unfold bound; omega
 rw [ci_zero,ci_all] at L
 simp [F_laws_toIntS,b1,L]
theorem c_eqIntS_self (aS : List Int) (ha : (aS.length : Int) ≤ 1048576) : call lf n_laws_eqIntS [.sl 0 (aS.map .i),.sl 0 (aS.map .i)] = some (.b true,[]) := by
 rw [call_k lf n_laws_eqIntS _ (F := F_laws_eqIntS) rfl rfl]
 have L : ex lf F_laws_eqIntS_W0 ⟨[(0,.sl 0 (aS.map .i)),(1,.sl 0 (aS.map .i)),(5,.i 0)],[]⟩ = some (.exit 0,⟨[(0,.sl 0 (aS.map .i)),(1,.sl 0 (aS.map .i)),(5,.i aS.length)],[]⟩) := by
  refine loop_count aS.length (fun i => ⟨[(0,.sl 0 (aS.map .i)),(1,.sl 0 (aS.map .i)),(5,.i i)],[]⟩) (fun i hi => ?_) ?_ (by simp)
  ·obtain ⟨t,q1,q2,q3,q4⟩ := at_i hi
   have w1 : wr ((i : Int) + 1) = (i : Int) + 1 := wr_id (by omega) (by omega)
   simp [F_laws_eqIntS_L0,hi,q3,w1]
  ·simp [F_laws_eqIntS_L0]
 simp [F_laws_eqIntS,L]
end
section
theorem c_toTest (t : T) : call lf n_laws_toTest [e2 t] = some (e2 t,[]) := by
 rw [call_k lf n_laws_toTest _ (F := F_laws_toTest) rfl rfl]
 simp [F_laws_toTest,e2]
theorem c_szTestS (ts : List T) (n : Int) (h0 : 0 ≤ n) (h1 : n ≤ 1048576) (hb : (ts.length : Int) ≤ 9223372036854775807) : call lf n_laws_szTestS [.sl 0 (ts.map e2),.i n] = some (.i (if n < ts.length then -1 else n - ts.length),[]) := by
 rw [call_k lf n_laws_szTestS _ (F := F_laws_szTestS) rfl rfl]
 have w : wr (n - ts.length) = n - ts.length := wr_id (by omega) (by omega)
 by_cases h : n < ts.length
 ·have h' : n - ts.length < 0 := by omega
  simp [F_laws_szTestS,w,h,h']
 ·have h' : ¬ n - ts.length < 0 := by omega
  simp [F_laws_szTestS,w,h,h']
def cz (ts : List T) (i : Nat) : List DV := (ts.take i).map e2 ++ List.replicate (ts.length - i) (.st [.i 0,.i 0])
theorem cz_len {ts : List T} {i : Nat} (hi : i ≤ ts.length) : (cz ts i).length = ts.length := by simp [cz]; omega
theorem cz_set {ts : List T} {i : Nat} {t : T} (hi : i < ts.length) (h : ts.take (i + 1) = ts.take i ++ [t]) : (cz ts i).set i (.st [.i t.1,.i t.2]) = cz ts (i + 1) := by
 have : ((ts.take i).map e2).length = i := by simp; omega
 unfold cz
 rw [List.set_append_right _ _ (by omega),this,Nat.sub_self,h,show ts.length - i = (ts.length - (i + 1)) + 1 by omega,List.replicate_succ,List.set_cons_zero,List.map_append,List.append_assoc]
 rfl
theorem cz_get {ts : List T} {i : Nat} (hi : i < ts.length) : atN (cz ts i) i = some (.st [.i 0,.i 0]) := by
 show (cz ts i)[i]? = _
 have : ((ts.take i).map e2).length = i := by simp; omega
 unfold cz
 rw [List.getElem?_append_right (by omega),this,Nat.sub_self,List.getElem?_replicate]
 simp; omega
theorem cz_zero (ts : List T) : cz ts 0 = List.replicate ts.length (.st [.i 0,.i 0]) := by simp [cz]
theorem cz_all (ts : List T) : cz ts ts.length = ts.map e2 := by simp [cz]
theorem c_toTestS (ts : List T) (hb : (ts.length : Int) ≤ 1048576) : call lf n_laws_toTestS [.sl 0 (ts.map e2)] = some (.fr 2 (ts.map e2),[]) := by
 rw [call_k lf n_laws_toTestS _ (F := F_laws_toTestS) rfl rfl]
 have L : ex lf F_laws_toTestS_W0 ⟨[(0,.sl 0 (ts.map e2)),(3,.own 3600 ts.length 0 ts.length),(4,.i 0)],[(3600,cz ts 0)]⟩ =
   some (.exit 0,⟨[(0,.sl 0 (ts.map e2)),(3,.own 3600 ts.length 0 ts.length),(4,.i ts.length)],[(3600,cz ts ts.length)]⟩) := by
  refine loop_count ts.length (fun i => ⟨[(0,.sl 0 (ts.map e2)),(3,.own 3600 ts.length 0 ts.length),(4,.i i)],[(3600,cz ts i)]⟩) (fun i hi => ?_) ?_ (by simp)
  ·obtain ⟨t,q1,q2,q3,q4⟩ := at_e2 hi
   have w1 : wr ((i : Int) + 1) = (i : Int) + 1 := wr_id (by omega) (by omega)
   have c1 := cz_len (ts := ts) (i := i) (by omega)
   have c2 := cz_get hi
   have c3 := cz_set hi q4
   have C := c_toTest t
   simp only [e2] at C
   simp [F_laws_toTestS_L0,hi,q3,w1,c1,c2,c3,C]
  ·simp [F_laws_toTestS_L0]
 have b1 : (ts.length : Int) ≤ bound := by unfold bound; omega
 rw [cz_zero,cz_all] at L
 simp [F_laws_toTestS,b1,L]
theorem c_eqTest (t u : T) : call lf n_laws_eqTest [e2 t,e2 u] = some (.b (t.1 == u.1 && t.2 == u.2),[]) := by
 rw [call_k lf n_laws_eqTest _ (F := F_laws_eqTest) rfl rfl]
 by_cases h1 : t.1 = u.1
 ·by_cases h2 : t.2 = u.2
  ·simp [F_laws_eqTest,e2,h1,h2]
  ·have h3 : (t.2 != u.2) = true := bne_iff_ne.2 h2
   have h4 : (t.2 == u.2) = false := beq_eq_false_iff_ne.2 h2
   simp [F_laws_eqTest,e2,h1,h3,h4]
 ·have h3 : (t.1 != u.1) = true := bne_iff_ne.2 h1
  have h4 : (t.1 == u.1) = false := beq_eq_false_iff_ne.2 h1
  simp [F_laws_eqTest,e2,h3,h4]
theorem c_eqTestS_self (aS : List T) (ha : (aS.length : Int) ≤ 1048576) : call lf n_laws_eqTestS [.sl 0 (aS.map e2),.sl 0 (aS.map e2)] = some (.b true,[]) := by
 rw [call_k lf n_laws_eqTestS _ (F := F_laws_eqTestS) rfl rfl]
 have L : ex lf F_laws_eqTestS_W0 ⟨[(0,.sl 0 (aS.map e2)),(1,.sl 0 (aS.map e2)),(5,.i 0)],[]⟩ = some (.exit 0,⟨[(0,.sl 0 (aS.map e2)),(1,.sl 0 (aS.map e2)),(5,.i aS.length)],[]⟩) := by
  refine loop_count aS.length (fun i => ⟨[(0,.sl 0 (aS.map e2)),(1,.sl 0 (aS.map e2)),(5,.i i)],[]⟩) (fun i hi => ?_) ?_ (by simp)
  ·obtain ⟨t,q1,q2,q3,q4⟩ := at_e2 hi
   have w1 : wr ((i : Int) + 1) = (i : Int) + 1 := wr_id (by omega) (by omega)
   have C := c_eqTest t t
   simp only [e2,beq_self_eq_true,Bool.and_self] at C
   simp [F_laws_eqTestS_L0,hi,q3,w1,C]
  ·simp [F_laws_eqTestS_L0]
 simp [F_laws_eqTestS,L]
end
section
theorem mid_at {A B : List DV} {i : Nat} (h : A.length = i) (x : DV) : atN (A ++ x :: B) i = some x := by
 show (A ++ x :: B)[i]? = _
 rw [List.getElem?_append_right (by omega),h]; simp
theorem mid_set {A B : List DV} {i : Nat} (h : A.length = i) (x y : DV) : (A ++ x :: B).set i y = A ++ y :: B := by
 rw [List.set_append_right _ _ (by omega),h]; simp
theorem split_at {es : List DV} {i : Nat} (hi : i < es.length) : es.drop i = es[i] :: es.drop (i + 1) := List.drop_eq_getElem_cons hi
/-- the marks from k on -/
def mk1 (k : Int) (n : Nat) : List DV := (List.range n).map fun (j : Nat) => DV.i (k + (j : Int))
theorem mk1_len (k : Int) (n : Nat) : (mk1 k n).length = n := by simp [mk1]
theorem mk1_succ (k : Int) (n : Nat) : mk1 k (n + 1) = mk1 k n ++ [.i (k + n)] := by simp [mk1,List.range_succ]
def mk2 (k : Int) (n : Nat) : List DV := (List.range n).map fun (j : Nat) => DV.st [.i (k + 2 * (j : Int)),.i (k + 2 * (j : Int) + 1)]
theorem mk2_len (k : Int) (n : Nat) : (mk2 k n).length = n := by simp [mk2]
theorem mk2_succ (k : Int) (n : Nat) : mk2 k (n + 1) = mk2 k n ++ [.st [.i (k + 2 * n),.i (k + 2 * n + 1)]] := by simp [mk2,List.range_succ]
theorem mk2_map (k : Int) (n : Nat) : ∃ u : List T,mk2 k n = u.map e2 ∧ u.length = n := ⟨(List.range n).map fun (j : Nat) => (k + 2 * (j : Int),k + 2 * (j : Int) + 1),by simp [mk2,e2],by simp⟩
set_option maxHeartbeats 4000000 in
theorem c_markIntS (xs : List Int) (k : Int) (k0 : 0 ≤ k) (k1 : k ≤ 1000000000) (hl : xs.length ≤ 1048576) : call lf n_laws_markIntS [.fr 1 (xs.map .i),.i k] = some (.i (k + xs.length),[.fr 1 (mk1 k xs.length)]) := by
 rw [call_k lf n_laws_markIntS _ (F := F_laws_markIntS) rfl rfl]
 have L := loop_count (lf := lf) (L := F_laws_markIntS_L0) xs.length (fun i => ⟨[(0,.own 15 xs.length 0 xs.length),(1,.i (k + i)),(5,.i i)],[(15,mk1 k i ++ (xs.map .i).drop i)]⟩) (x := .exit 0) (R := ⟨[(0,.own 15 xs.length 0 xs.length),(1,.i (k + xs.length)),(5,.i xs.length)],[(15,mk1 k xs.length ++ (xs.map .i).drop xs.length)]⟩) (fun i hi => by
  have w1 : wr ((i : Int) + 1) = (i : Int) + 1 := wr_id (by omega) (by omega)
  have w2 : wr (k + i + 1) = k + (i + 1 : Nat) := by rw [wr_id (by omega) (by omega)]; omega
  have hi' : (i : Int) < xs.length := by omega
  have e := split_at (es := xs.map DV.i) (i := i) (by simpa using hi)
  rw [List.getElem_map] at e
  rw [mk1_succ,e]
  have hA := mk1_len k i
  have lB : (List.drop (i + 1) (xs.map DV.i)).length = xs.length - (i + 1) := by simp
  generalize xs[i] = x at *
  generalize List.drop (i + 1) (xs.map DV.i) = B at *
  generalize mk1 k i = A at *
  have q1 := mid_at (B := B) hA
  have q2 := mid_set (B := B) hA
  have q3 : ∀ x : DV,(A ++ x :: B).length = xs.length := fun x => by simp [hA,lB]; omega
  rw [show A ++ [DV.i (k + ↑i)] ++ B = A ++ DV.i (k + ↑i) :: B by simp]
  simp [F_laws_markIntS_L0,hi,hi',w1,w2,q1,q2,q3,-List.length_append,-List.length_cons]) (by
  have lm := mk1_len k xs.length
  simp [F_laws_markIntS_L0,lm]) (by simp)
 have z : mk1 k 0 ++ (xs.map DV.i).drop 0 = xs.map .i := by simp [mk1]
 rw [z] at L
 have zn : mk1 k xs.length ++ (xs.map DV.i).drop xs.length = mk1 k xs.length := by simp
 rw [zn] at L
 have L' : ex lf F_laws_markIntS_W0 ⟨[(0,.own 15 xs.length 0 xs.length),(1,.i k),(5,.i 0)],[(15,xs.map .i)]⟩ = some (.exit 0,⟨[(0,.own 15 xs.length 0 xs.length),(1,.i (k + xs.length)),(5,.i xs.length)],[(15,mk1 k xs.length)]⟩) := by
  have := L
  simp only [Int.natCast_zero,Int.add_zero] at this
  exact this
 have lm := mk1_len k xs.length
 simp [F_laws_markIntS,L',lm]
set_option maxHeartbeats 4000000 in
theorem c_heldIntS (n : Nat) (k : Int) (k0 : 0 ≤ k) (k1 : k ≤ 1000000000) (hl : n ≤ 1048576) : call lf n_laws_heldIntS [.sl 0 (mk1 k n),.i k] = some (.i (k + n),[]) := by
 rw [call_k lf n_laws_heldIntS _ (F := F_laws_heldIntS) rfl rfl]
 have lm := mk1_len k n
 have A : ∀ i,i < n → atI (mk1 k n) (i : Int) = some (.i (k + i)) := fun i hi => by simp [atI,mk1,hi]
 generalize mk1 k n = es at *
 have L := loop_count (lf := lf) (L := F_laws_heldIntS_L0) n (fun i => ⟨[(0,.sl 0 es),(1,.i (k + i)),(5,.i i)],[]⟩) (x := .exit 0) (R := ⟨[(0,.sl 0 es),(1,.i (k + n)),(5,.i n)],[]⟩) (fun i hi => by
  have w1 : wr ((i : Int) + 1) = (i : Int) + 1 := wr_id (by omega) (by omega)
  have w2 : wr (k + i + 1) = k + (i + 1 : Nat) := by rw [wr_id (by omega) (by omega)]; omega
  have hi' : (i : Int) < n := by omega
  have q := A i hi
  simp [F_laws_heldIntS_L0,hi,hi',w1,w2,lm,q]) (by
  simp [F_laws_heldIntS_L0,lm]) (by simp)
 have L' : ex lf F_laws_heldIntS_W0 ⟨[(0,.sl 0 es),(1,.i k),(5,.i 0)],[]⟩ = some (.exit 0,⟨[(0,.sl 0 es),(1,.i (k + n)),(5,.i n)],[]⟩) := by
  have := L
  simp only [Int.natCast_zero,Int.add_zero] at this
  exact this
 simp [F_laws_heldIntS,L']
set_option maxHeartbeats 4000000 in
theorem c_markTestS (xs : List T) (k : Int) (k0 : 0 ≤ k) (k1 : k ≤ 1000000000) (hl : xs.length ≤ 1048576) : call lf n_laws_markTestS [.fr 2 (xs.map e2),.i k] = some (.i (k + 2 * xs.length),[.fr 2 (mk2 k xs.length)]) := by
 rw [call_k lf n_laws_markTestS _ (F := F_laws_markTestS) rfl rfl]
 have L := loop_count (lf := lf) (L := F_laws_markTestS_L0) xs.length (fun i => ⟨[(0,.own 23 xs.length 0 xs.length),(1,.i (k + 2 * i)),(5,.i i)],[(23,mk2 k i ++ (xs.map e2).drop i)]⟩) (x := .exit 0) (R := ⟨[(0,.own 23 xs.length 0 xs.length),(1,.i (k + 2 * xs.length)),(5,.i xs.length)],[(23,mk2 k xs.length ++ (xs.map e2).drop xs.length)]⟩) (fun i hi => by
  have w1 : wr ((i : Int) + 1) = (i : Int) + 1 := wr_id (by omega) (by omega)
  have w2 : wr (k + 2 * i + 1) = k + 2 * i + 1 := wr_id (by omega) (by omega)
  have w3 : wr (k + 2 * i + 1 + 1) = k + 2 * (i + 1 : Nat) := by rw [wr_id (by omega) (by omega)]; omega
  have hi' : (i : Int) < xs.length := by omega
  have e := split_at (es := xs.map e2) (i := i) (by simpa using hi)
  rw [List.getElem_map] at e
  rw [mk2_succ,e]
  have hA := mk2_len k i
  have lB : (List.drop (i + 1) (xs.map e2)).length = xs.length - (i + 1) := by simp
  generalize xs[i] = x at *
  generalize List.drop (i + 1) (xs.map e2) = B at *
  generalize mk2 k i = A at *
  have q1 := mid_at (B := B) hA
  have q2 := mid_set (B := B) hA
  have q3 : ∀ x : DV,(A ++ x :: B).length = xs.length := fun x => by simp [hA,lB]; omega
  rw [show A ++ [DV.st [DV.i (k + 2 * ↑i),DV.i (k + 2 * ↑i + 1)]] ++ B = A ++ DV.st [DV.i (k + 2 * ↑i),DV.i (k + 2 * ↑i + 1)] :: B by simp]
  have q4 : ∀ a b : DV,1 ≤ [a,b].length := fun a b => by simp
  have q5 : ∀ a b : DV,2 ≤ [a,b].length := fun a b => by simp
  simp [F_laws_markTestS_L0,e2,hi,hi',w1,w2,w3,q1,q2,q3,q4,q5,-List.length_append,-List.length_cons]) (by
  have lm := mk2_len k xs.length
  simp [F_laws_markTestS_L0,lm]) (by simp)
 have z : mk2 k 0 ++ (xs.map e2).drop 0 = xs.map e2 := by simp [mk2]
 rw [z] at L
 have zn : mk2 k xs.length ++ (xs.map e2).drop xs.length = mk2 k xs.length := by simp
 rw [zn] at L
 have L' : ex lf F_laws_markTestS_W0 ⟨[(0,.own 23 xs.length 0 xs.length),(1,.i k),(5,.i 0)],[(23,xs.map e2)]⟩ = some (.exit 0,⟨[(0,.own 23 xs.length 0 xs.length),(1,.i (k + 2 * xs.length)),(5,.i xs.length)],[(23,mk2 k xs.length)]⟩) := by
  have := L
  simp only [Int.natCast_zero,Int.mul_zero,Int.add_zero] at this
  exact this
 have lm := mk2_len k xs.length
 simp [F_laws_markTestS,L',lm]
end
section
/-- a mark read with p parts before it -/
def mkS (m p : Int) (t : T) : Option Int :=
 if t.1 = 0 then (if 0 ≤ t.2 ∧ t.2 < m then some (p + 1) else none)
 else if t.1 = 1 then (if t.2 = 0 ∧ 1 ≤ p then some p else none)
 else if t.1 = 2 ∨ t.1 = 3 then (if t.2 = 0 ∧ 2 ≤ p then some (p - 1) else none)
 else none
def runM (m : Int) : Int → List T → Option Int
 | p,[] => some p
 | p,t :: r => match mkS m p t with
  | some q => runM m q r
  | none => none
end
section
inductive Tm where
 | tst (a : Nat)
 | neg (x : Tm)
 | and (x y : Tm)
 | or (x y : Tm)
def ev (s : Nat) : Tm → Bool
 | .tst a => s.testBit a
 | .neg x => !ev s x
 | .and x y => ev s x && ev s y
 | .or x y => ev s x || ev s y
/-- how many parts a mark takes -/
def taken (k : Int) : Nat := if k = 0 then 0 else if k = 1 then 1 else 2
def stepG {P : Type} (mk : T → List P → P) (st : List P) (t : T) : List P := st.take (st.length - taken t.1) ++ [mk t (st.drop (st.length - taken t.1))]
def yesW (a : Nat) : BitVec 32 := match a with
 | 0 => 2863311530#32
 | 1 => 3435973836#32
 | 2 => 4042322160#32
 | 3 => 4278255360#32
 | _ => 4294901760#32
def mkW (t : T) (ps : List (BitVec 32)) : BitVec 32 :=
 if t.1 = 0 then yesW t.2.toNat else if t.1 = 1 then ~~~(ps.getD 0 0) else if t.1 = 2 then ps.getD 0 0 &&& ps.getD 1 0 else ps.getD 0 0 ||| ps.getD 1 0
def tsW (ts : List T) : BitVec 32 := (ts.foldl (stepG mkW) []).headD 0
/-- the value of a term in a state -/
def tv (ts : List T) (s : Nat) : Bool := (tsW ts).getLsbD s
end
section
def hs (bs : List Nat) (p : Int) : Int := (bs.getD (p.tmod bs.length).toNat 0 : Nat) * 131 + (bs.getD ((p * 7 + 3).tmod bs.length).toNat 0 : Nat) * 1117 + p * 29 + p.tdiv bs.length * 53
def pk (bs : List Nat) (p n : Int) : Int := if bs.length = 0 then 0 else if p < bs.length then ((bs.getD p.toNat 0 : Nat) : Int).tmod n else (xorI (hs bs p) ((hs bs p).tdiv 64)).tmod n
theorem byte_lt {bs : List Nat} (hb : ∀ y ∈ bs,y < 256) (i : Nat) : bs.getD i 0 < 256 := by
 by_cases h : i < bs.length
 ·have : bs.getD i 0 = bs[i] := by simp [List.getD,h]
  rw [this]
  exact hb _ (List.getElem_mem h)
 ·have : bs.getD i 0 = 0 := by simp [List.getD,List.getElem?_eq_none (by omega : bs.length ≤ i)]
  omega
end
section
theorem cells_st (cs : List DV) : (DV.st cs).cells = cs := rfl
theorem cells_sl (p : Nat) (es : List DV) : (DV.sl p es).cells = [DV.sl p es] := rfl
theorem cells_i (n : Int) : (DV.i n).cells = [DV.i n] := rfl
theorem cells_y (n : Nat) : (DV.y n).cells = [DV.y n] := rfl
theorem cells_b (n : Bool) : (DV.b n).cells = [DV.b n] := rfl
theorem cells_s (n : List UInt8) : (DV.s n).cells = [DV.s n] := rfl
attribute [-simp] DV.cells
attribute [local simp] cells_st cells_sl cells_i cells_y cells_b cells_s
def row (t : List T) : DV := .sl 1 (t.map e2)
theorem flat_set (m : T) : ∀ {ps : List (List T)} {A : Nat} {t : List T},ps[A]? = some t → (ps.set A (t ++ [m])).flatten.length = ps.flatten.length + 1
 | [],_,_,h => by simp at h
 | x :: ps,0,t,h => by simp at h; subst h; simp; omega
 | x :: ps,A + 1,t,h => by
  simp only [List.getElem?_cons_succ] at h
  have := flat_set m h
  simp at this ⊢
  omega
theorem flat_len : ∀ {ps : List (List T)} {A : Nat} {t : List T},ps[A]? = some t → t.length ≤ ps.flatten.length
 | [],_,_,h => by simp at h
 | x :: ps,0,t,h => by simp at h; subst h; simp
 | x :: ps,A + 1,t,h => by
  simp only [List.getElem?_cons_succ] at h
  have := flat_len h
  simp only [List.flatten_cons,List.length_append]; omega
end
section
attribute [-simp] DV.cells
attribute [local simp] cells_st cells_sl cells_i cells_y cells_b cells_s
theorem cells_w (x : BitVec 32) : (DV.w x).cells = [DV.w x] := rfl
attribute [local simp] cells_w
end
section
attribute [-simp] DV.cells
attribute [local simp] cells_st cells_sl cells_i cells_y cells_b cells_s cells_w
attribute [-simp] sliceD
def bI (b : Bool) : Int := if b then 1 else 0
end
section
attribute [-simp] DV.cells sliceD
attribute [local simp] cells_st cells_sl cells_i cells_y cells_b cells_s cells_w
theorem bit_bI {a s : Nat} (hs : s ≤ 60) : (shrI (a : Int) (s : Int)).tmod 2 = bI (a.testBit s) := by
 rw [shr1 (by omega) (by omega),tmod2 (Int.ediv_nonneg (by omega) (Int.le_of_lt (Int.pow_pos (by omega))))]
 unfold bI
 rw [Nat.testBit_eq_decide_div_mod_eq,Int.toNat_natCast]
 have : (a : Int) / 2 ^ s % 2 = ((a / 2 ^ s % 2 : Nat) : Int) := by simp
 rw [this]
 by_cases h : a / 2 ^ s % 2 = 1
 ·simp [h]
 ·have : a / 2 ^ s % 2 = 0 := by omega
  simp [this]
theorem pow5 {m : Int} (h1 : 1 ≤ m) (h5 : m ≤ 5) : 2 ≤ 2 ^ m.toNat ∧ 2 ^ m.toNat ≤ 32 ∧ ((2 ^ m.toNat : Nat) : Int) = 2 ^ m.toNat := by
 have c : m = 1 ∨ m = 2 ∨ m = 3 ∨ m = 4 ∨ m = 5 := by omega
 rcases c with rfl | rfl | rfl | rfl | rfl <;> decide
end
section
attribute [-simp] DV.cells sliceD
attribute [local simp] cells_st cells_sl cells_i cells_y cells_b cells_s cells_w
/-- 1 if f holds wherever g does below N,0 if nowhere,else -1 -/
def fo (f g : Nat → Bool) (N : Nat) : Int := if allTo (fun s => !g s || f s) N then 1 else if allTo (fun s => !g s || !f s) N then 0 else -1
/-- What the states say that agree. -/
def agB (ks : List Int) (s : Nat) : Bool := ag ks (s : Int)
end
section
attribute [-simp] DV.cells sliceD
attribute [local simp] cells_st cells_sl cells_i cells_y cells_b cells_s cells_w
/-- what is known of a term by what is known of its tests -/
def foT (m : Int) (ts : List T) (ks : List Int) : Int := fo (tv ts) (agB ks) (2 ^ m.toNat)
def told (m : Nat) (st so : Nat) : List Int := (List.range m).map fun k => if so.testBit k then bI (st.testBit k) else -1
theorem bI_eq1 (b : Bool) : (bI b == 1) = b := by cases b <;> rfl
end
section
attribute [-simp] DV.cells sliceD
attribute [local simp] cells_st cells_sl cells_i cells_y cells_b cells_s cells_w
def agW : List Int → Nat → BitVec 32 → BitVec 32
 | [],_,w => w
 | k :: r,i,w => agW r (i + 1) (if k = 0 then w &&& ~~~(yesW i) else if k = 1 then w &&& yesW i else w)
end
section
attribute [-simp] DV.cells sliceD
attribute [local simp] cells_st cells_sl cells_i cells_y cells_b cells_s cells_w
theorem div_bI (a s : Nat) : (a : Int) / 2 ^ s % 2 = bI (a.testBit s) := by
 unfold bI
 rw [Nat.testBit_eq_decide_div_mod_eq]
 have : (a : Int) / 2 ^ s % 2 = ((a / 2 ^ s % 2 : Nat) : Int) := by simp
 rw [this]
 by_cases h : a / 2 ^ s % 2 = 1
 ·simp [h]
 ·have : a / 2 ^ s % 2 = 0 := by omega
  simp [this]
theorem c_impl_hasTest (so k : Nat) (hk : k ≤ 40) : call lf n_impl_hasTest [.i so,.i k] = some (.b (so.testBit k),[]) := by
 rw [call_k lf n_impl_hasTest _ (F := F_impl_hasTest) rfl rfl]
 have ni : ¬ (k : Int) < 0 := by omega
 have e : andI (shrI (so : Int) (k : Int)) 1 = bI (so.testBit k) := by
  rw [bit_and,shr1 (by omega) (by omega),Int.toNat_natCast,div_bI]
 simp [F_impl_hasTest,ni,e,bI_eq1]
end
section
attribute [-simp] DV.cells
attribute [local simp] cells_st cells_sl cells_i cells_y cells_b cells_s cells_w
theorem or_fin : ∀ (s : _root_.Fin 32) (k : _root_.Fin 5),orI (s.val : Int) ((2 : Int) ^ k.val) = ((s.val ||| 2 ^ k.val : Nat) : Int) := by decide +kernel
theorem or_nat {s k : Nat} (hs : s < 32) (hk : k < 5) : orI (s : Int) ((2 : Int) ^ k) = ((s ||| 2 ^ k : Nat) : Int) := or_fin ⟨s,hs⟩ ⟨k,hk⟩
end
section
/-- each of the tests once,from those on that some tests are -/
def orS (m : Int) : Nat → List Int → Bool
 | _,[] => true
 | so,a :: r => decide (0 ≤ a ∧ a < m) && !so.testBit a.toNat && orS m (so ||| 2 ^ a.toNat) r
def orOk (m : Int) (os : List Int) : Bool := nOk m && decide ((os.length : Int) = m) && orS m 0 os
def setO : Nat → List Int → Nat
 | so,[] => so
 | so,a :: r => setO (so ||| 2 ^ a.toNat) r
theorem orS_cons {m : Int} {so : Nat} {a : Int} {r : List Int} : orS m so (a :: r) = true ↔ (0 ≤ a ∧ a < m) ∧ so.testBit a.toNat = false ∧ orS m (so ||| 2 ^ a.toNat) r = true := by
 simp [orS,and_assoc]
theorem orOk_iff {m : Int} {os : List Int} : orOk m os = true ↔ (1 ≤ m ∧ m ≤ 5) ∧ (os.length : Int) = m ∧ orS m 0 os = true := by
 rw [orOk,Bool.and_eq_true,Bool.and_eq_true,nOk_iff,decide_eq_true_eq,and_assoc]
theorem setO_app : ∀ (so : Nat) (p q : List Int),setO so (p ++ q) = setO (setO so p) q
 | _,[],_ => rfl
 | so,a :: r,q => setO_app (so ||| 2 ^ a.toNat) r q
theorem orS_app {m : Int} : ∀ (so : Nat) (p q : List Int),orS m so (p ++ q) = (orS m so p && orS m (setO so p) q)
 | _,[],q => by simp [orS,setO]
 | so,a :: r,q => by simp only [List.cons_append,orS,setO,orS_app (so ||| 2 ^ a.toNat) r q,Bool.and_assoc]
theorem or_bit (so a k : Nat) : (so ||| 2 ^ a).testBit k = (so.testBit k || decide (a = k)) := by
 rw [Nat.testBit_or,Nat.testBit_two_pow]
theorem or_lt2 {m so a : Nat} (h : so < 2 ^ m) (ha : a < m) : so ||| 2 ^ a < 2 ^ m := Nat.or_lt_two_pow h (Nat.pow_lt_pow_right (by omega) ha)
theorem setO_bit : ∀ {os : List Int} {so k : Nat},(∀ o ∈ os,0 ≤ o) → ((setO so os).testBit k = true ↔ so.testBit k = true ∨ (k : Int) ∈ os)
 | [],_,_,_ => by simp [setO]
 | a :: r,so,k,h => by
  have ha := h a (by simp)
  rw [setO,setO_bit (os := r) (fun o ho => h o (by simp [ho])),or_bit]
  simp only [Bool.or_eq_true,decide_eq_true_eq,List.mem_cons]
  have : a.toNat = k ↔ (k : Int) = a := by omega
  rw [this,or_assoc]
/-- how many tests are not among some -/
def uc (so : Nat) : Nat → Nat
 | 0 => 0
 | i + 1 => uc so i + if so.testBit i then 0 else 1
theorem uc_zero : ∀ n,uc 0 n = n
 | 0 => rfl
 | n + 1 => by simp [uc,uc_zero n]
theorem uc_congr {a b : Nat} : ∀ {n},(∀ k,k < n → a.testBit k = b.testBit k) → uc a n = uc b n
 | 0,_ => rfl
 | n + 1,h => by simp only [uc]; rw [uc_congr (fun k hk => h k (by omega)),h n (by omega)]
theorem uc_or {so a : Nat} : ∀ {n},a < n → so.testBit a = false → uc (so ||| 2 ^ a) n + 1 = uc so n
 | 0,h,_ => by omega
 | n + 1,h,hb => by
  simp only [uc]
  by_cases e : a = n
  ·subst e
   rw [uc_congr (a := so ||| 2 ^ a) (b := so) (fun k hk => by rw [or_bit,decide_eq_false (by omega),Bool.or_false]),or_bit,hb]
   simp
  ·have := uc_or (so := so) (a := a) (n := n) (by omega) hb
   rw [or_bit,decide_eq_false e,Bool.or_false]
   omega
theorem uc_all {so : Nat} : ∀ {n},uc so n = 0 → ∀ k,k < n → so.testBit k = true
 | 0,_,k,hk => by omega
 | n + 1,h,k,hk => by
  simp only [uc] at h
  rcases Nat.lt_succ_iff_lt_or_eq.1 hk with q | rfl
  ·exact uc_all (n := n) (by omega) k q
  ·cases hb : so.testBit k with
   | true => rfl
   | false => rw [hb] at h; simp at h
theorem uc_setO {m : Int} (hm : 0 ≤ m) : ∀ {os : List Int} {so : Nat},orS m so os = true → uc (setO so os) m.toNat + os.length = uc so m.toNat
 | [],_,_ => by simp [setO]
 | a :: r,so,h => by
  obtain ⟨h1,h2,h3⟩ := orS_cons.1 h
  have i := uc_setO hm (os := r) h3
  have u := uc_or (so := so) (a := a.toNat) (n := m.toNat) (by omega) h2
  simp only [setO,List.length_cons]; omega
theorem set_all {m : Int} {os : List Int} (h : orOk m os = true) : ∀ k,k < m.toNat → (setO 0 os).testBit k = true := by
 obtain ⟨h1,h2,h3⟩ := orOk_iff.1 h
 have u := uc_setO (by omega) h3
 rw [uc_zero] at u
 exact uc_all (by omega)
def cA (us : List T) (a : Nat) : Int := (us.getD a (0,0)).1
theorem cA_nn {us : List T} (h : us.all tOk = true) (k : Nat) : 0 ≤ cA us k ∧ (k < us.length → 1 ≤ cA us k) ∧ cA us k ≤ 9 := by
 unfold cA
 by_cases hk : k < us.length
 ·have e : us.getD k (0,0) = us[k] := by simp [List.getD,hk]
  rw [e]
  have := tOk_iff.1 (List.all_eq_true.1 h us[k] (List.getElem_mem hk))
  omega
 ·have e : us.getD k (0,0) = (0,0) := by simp [List.getD,List.getElem?_eq_none (by omega : us.length ≤ k)]
  rw [e]; simp; omega
end
section
theorem orS_nodup {m : Int} : ∀ {os : List Int} {so : Nat},orS m so os = true ↔ (∀ o ∈ os,(0 ≤ o ∧ o < m) ∧ so.testBit o.toNat = false) ∧ os.Nodup
 | [],so => by simp [orS]
 | a :: r,so => by
  rw [orS_cons,orS_nodup (os := r),List.nodup_cons]
  constructor
  ·rintro ⟨h1,h2,h3,h4⟩
   refine ⟨fun o ho => ?_,fun hm => ?_,h4⟩
   ·rcases List.mem_cons.1 ho with rfl | ho
    ·exact ⟨h1,h2⟩
    ·obtain ⟨q1,q2⟩ := h3 o ho
     rw [or_bit,Bool.or_eq_false_iff] at q2
     exact ⟨q1,q2.1⟩
   ·have q := (h3 a hm).2
    rw [or_bit] at q; simp at q
  ·rintro ⟨h1,h2,h3⟩
   obtain ⟨a1,a2⟩ := h1 a (by simp)
   refine ⟨a1,a2,fun o ho => ?_,h3⟩
   obtain ⟨q1,q2⟩ := h1 o (by simp [ho])
   refine ⟨q1,?_⟩
   rw [or_bit,q2,Bool.false_or,decide_eq_false]
   intro e
   have : a = o := by omega
   exact h2 (this ▸ ho)
def rng (n : Nat) : List Int := (List.range n).map fun (k : Nat) => (k : Int)
theorem mem_rng {n : Nat} {o : Int} : o ∈ rng n ↔ 0 ≤ o ∧ o < n := by
 unfold rng
 rw [List.mem_map]
 constructor
 ·rintro ⟨k,h,rfl⟩; have := List.mem_range.1 h; omega
 ·intro h; exact ⟨o.toNat,List.mem_range.2 (by omega),by omega⟩
theorem orOk_len {m : Int} {os : List Int} (h : orOk m os = true) : (os.length : Int) = m := (orOk_iff.1 h).2.1
end
section
def hkn (m : Nat) (ks : List Int) (so : Nat) : Prop := ∀ k,k < m → (ks[k]? = some (-1) ↔ so.testBit k = false)
def non (m : Nat) : List Int := List.replicate m (-1)
end
section
attribute [-simp] DV.cells sliceD
attribute [local simp] cells_st cells_sl cells_i cells_y cells_b cells_s cells_w
theorem hasTest_i {so : Nat} {a : Int} (h0 : 0 ≤ a) (h5 : a < 5) : call lf n_impl_hasTest [.i so,.i a] = some (.b (so.testBit a.toNat),[]) := by
 have := c_impl_hasTest so a.toNat (by omega)
 rw [Int.toNat_of_nonneg h0] at this
 exact this
theorem or_i {so : Nat} {a : Int} (hs : so < 32) (h0 : 0 ≤ a) (h5 : a < 5) : orI (so : Int) (shlI 1 a) = ((so ||| 2 ^ a.toNat : Nat) : Int) := by
 rw [shl1 h0 (by omega)]
 exact or_nat hs (by omega)
theorem pow_le5 {m : Int} (h : 1 ≤ m ∧ m ≤ 5) : 2 ^ m.toNat ≤ 32 := (pow5 h.1 h.2).2.1
theorem l_impl_OrderOk {m : Int} (hm : 1 ≤ m ∧ m ≤ 5) (n : Int) (hb : n < 1099511627776) (es : List DV) (rest : List Int) : ∀ (k : Int) (so : Nat),so < 2 ^ m.toNat → 0 ≤ k → k + (rest.map DV.i).length = n → es.drop k.toNat = rest.map .i →
  ex lf F_impl_OrderOk_W0 ⟨[(0,.i m),(5,.i so),(17,.sl 0 es),(18,.i n),(19,.i k)],[]⟩ =
  if orS m so rest = true then some (.exit 0,⟨[(0,.i m),(5,.i (setO so rest : Nat)),(17,.sl 0 es),(18,.i n),(19,.i n)],[]⟩) else some (.ret,⟨[(4,.b false)],[]⟩) := by
 have p5 := pow_le5 hm
 induction rest with
 | nil =>
  intro k so hs h0 hn hd
  rw [w_impl_OrderOk_0]
  have hk : k = n := by simpa using hn
  simp [F_impl_OrderOk_L0,hk,orS,setO]
 | cons a rest ih =>
  intro k so hs h0 hn hd
  obtain ⟨q1,q2,q3,q4,q5,q6⟩ := stp h0 hn hb hd
  have w : wr (m - 1) = m - 1 := wr_id (by omega) (by omega)
  rw [w_impl_OrderOk_0]
  by_cases ha : 0 ≤ a ∧ a < m
  ·have e1 : decide (0 ≤ a ∧ a ≤ m - 1) = true := decide_eq_true (by omega)
   have e2 : decide (0 ≤ a ∧ a < m) = true := decide_eq_true ha
   have H := hasTest_i (so := so) ha.1 (by omega)
   have n0 : ¬ a < 0 := by omega
   have o := or_i (so := so) (by omega) ha.1 (by omega : a < 5)
   have ih := ih (k + 1) (so ||| 2 ^ a.toNat) (or_lt2 hs (by omega)) q4 q5 q6
   simp only [orS,e2,Bool.true_and,setO]
   cases hb : so.testBit a.toNat with
   | true =>
    rw [hb] at H
    simp [F_impl_OrderOk_L0,q1,q2,q3,w,c_impl_isWithin,e1,H]
   | false =>
    rw [hb] at H
    simp [F_impl_OrderOk_L0,q1,q2,q3,w,c_impl_isWithin,e1,H,n0,o,ih]
  ·have e1 : decide (0 ≤ a ∧ a ≤ m - 1) = false := decide_eq_false (by omega)
   have e2 : decide (0 ≤ a ∧ a < m) = false := decide_eq_false ha
   simp only [orS,e2,Bool.false_and]
   simp [F_impl_OrderOk_L0,q1,q2,q3,w,c_impl_isWithin,e1]
theorem c_impl_OrderOk (m : Int) (os : List Int) (hb : (os.length : Int) < 1099511627776) : call lf n_impl_OrderOk [.i m,.sl 0 (os.map .i)] = some (.b (orOk m os),[]) := by
 rw [call_k lf n_impl_OrderOk _ (F := F_impl_OrderOk) rfl rfl]
 unfold orOk
 cases h1 : nOk m with
 | false => simp [F_impl_OrderOk,c_impl_manyOk,h1]
 | true =>
  by_cases h2 : (os.length : Int) = m
  ·have L := l_impl_OrderOk (nOk_iff.1 h1) os.length hb (os.map .i) os 0 0 (Nat.pow_pos (by omega)) (by omega) (by simp) (by simp)
   simp only [Int.natCast_zero] at L
   cases h3 : orS m 0 os <;> rw [h3] at L <;> simp at L <;> simp [F_impl_OrderOk,c_impl_manyOk,h1,h2,L,h3] <;> (subst h2; simp [L])
  ·have y : ((os.length : Int) != m) = true := bne_iff_ne.2 h2
   simp [F_impl_OrderOk,c_impl_manyOk,h1,y,h2]
end
section
/-- the chance of a test to end a row -/
def eA (us : List T) (row : Int) (a : Nat) : Int := if row = 0 then 6 - (us.getD a (0,0)).2 else (us.getD a (0,0)).2
def rA (us : List T) (row : Int) : Int → List Int → Int
 | _,[] => 0
 | on,a :: r => cA us a.toNat * on * 6 ^ (r.length + 1) + rA us row (on * (6 - eA us row a.toNat)) r
end
section
theorem rng_nodup (n : Nat) : (rng n).Nodup := List.Pairwise.map _ (fun a b h e => h (by omega)) (List.nodup_range (n := n))
theorem or_perm {m : Int} {os : List Int} (h : orOk m os = true) : os.Perm (rng m.toNat) := by
 obtain ⟨g1,g2,g3⟩ := orOk_iff.1 h
 obtain ⟨n1,n2⟩ := orS_nodup.1 g3
 refine (List.perm_ext_iff_of_nodup n2 (rng_nodup _)).2 fun o => ?_
 constructor
 ·intro ho
  exact mem_rng.2 (by have := (n1 o ho).1; omega)
 ·intro ho
  have hr := mem_rng.1 ho
  have := set_all h o.toNat (by omega)
  rw [setO_bit (fun x hx => (n1 x hx).1.1)] at this
  rcases this with q | q
  ·simp at q
  ·rwa [Int.toNat_of_nonneg hr.1] at q
end
section
def fl (s : Int) (i : Nat) : Bool := s / 2 ^ i % 2 == 1
end
section
def prR (us : List T) (row : Int) : Int → List Int → Int
 | on,[] => on
 | on,a :: r => prR us row (on * (6 - eA us row a.toNat)) r
end
section
attribute [-simp] DV.cells sliceD
attribute [local simp] cells_st cells_sl cells_i cells_y cells_b cells_s cells_w
theorem p6 : ∀ {n : Nat},n ≤ 5 → (1 : Int) ≤ 6 ^ n ∧ (6 : Int) ^ n ≤ 7776 := by
 intro n hn
 have : n = 0 ∨ n = 1 ∨ n = 2 ∨ n = 3 ∨ n = 4 ∨ n = 5 := by omega
 rcases this with rfl | rfl | rfl | rfl | rfl | rfl <;> decide
theorem c_spec_l1Power {n : Nat} (h : n ≤ 5) : call lf n_spec_l1Power [.i n] = some (.i (6 ^ n),[]) := by
 have L := loop_count (lf := lf) (L := F_spec_l1Power_L0) n (fun i => ⟨[(0,.i n),(3,.i (6 ^ i)),(4,.i i)],[]⟩) (x := .exit 0) (R := ⟨[(0,.i n),(3,.i (6 ^ n)),(4,.i n)],[]⟩) (fun i hi => by
  have p := p6 (n := i) (by omega)
  have w1 : wr ((i : Int) + 1) = i + 1 := wr_id (by omega) (by omega)
  have w2 : wr ((6 : Int) ^ i * 6) = 6 ^ (i + 1) := by rw [wr_id (by omega) (by omega),Int.pow_succ]
  simp [F_spec_l1Power_L0,hi,w1,w2]) (by simp [F_spec_l1Power_L0]) (by simp)
 have L' : ex lf F_spec_l1Power_W0 ⟨[(0,.i n),(3,.i 1),(4,.i 0)],[]⟩ = some (.exit 0,⟨[(0,.i n),(3,.i (6 ^ n)),(4,.i n)],[]⟩) := L
 rw [call_k lf n_spec_l1Power _ (F := F_spec_l1Power) rfl rfl]
 simp [F_spec_l1Power,L']
def stW (us : List T) (tab : Nat) (os : List Int) (k : Nat) (ks : List Int) (w a sum sd : Int) : LS :=
 ⟨[(0,.sl 0 (us.map e2)),(1,.i tab),(2,.sl 0 (os.map .i)),(3,.i k),(4,.sl 0 (ks.map .i)),(5,.i w),(13,.i a),(14,.i sum),(15,.i sd)],[]⟩
end
section
attribute [-simp] DV.cells
attribute [local simp] sliceD cells_st cells_sl cells_i cells_y cells_b cells_s cells_w
theorem p6le {i j : Nat} (h : i + j ≤ 5) {on : Int} (h0 : 0 ≤ on) (h1 : on ≤ 6 ^ i) : 0 ≤ on * 6 ^ j ∧ on * 6 ^ j ≤ 7776 := by
 have pj := p6 (n := j) (by omega)
 have q := (p6 h).2
 rw [Int.pow_add] at q
 have := Int.mul_le_mul_of_nonneg_right h1 (show (0 : Int) ≤ 6 ^ j by omega)
 have := Int.mul_nonneg h0 (show (0 : Int) ≤ 6 ^ j by omega)
 omega
end
section
inductive PT where
 | stop
 | ask (k : Nat) (no yes : PT)
def fcd (m : Nat) (t : List T) (ks : List Int) : Bool := foT m t ks != -1
end
section
abbrev C3 := Int × Int × Int
/-- a tree with the places of its choices -/
inductive LT where
 | stop
 | ask (p k : Nat) (no yes : LT)
def LT.size : LT → Nat
 | .stop => 0
 | .ask _ _ n y => 1 + n.size + y.size
/-- where one may go on to from a place -/
def nxt (N : Nat) (p : Nat) (a : Int) : Prop := a = -1 ∨ ((p : Int) + 1 ≤ a ∧ a ≤ (N : Int) - 1)
instance (N p : Nat) (a : Int) : Decidable (nxt N p a) := by unfold nxt; infer_instance
/-- the row holds the tree,from a place on -/
def enc (P : List C3) : Int → LT → Prop
 | a,.stop => a = -1
 | a,.ask p k n y => a = (p : Int) ∧ ∃ no ye,P[p]? = some ((k : Int),no,ye) ∧ nxt P.length p no ∧ nxt P.length p ye ∧ enc P no n ∧ enc P ye y
/-- where a row goes on to -/
def rfs : List C3 → List Int
 | [] => []
 | (_,no,ye) :: r => (if no = -1 then [] else [no]) ++ (if ye = -1 then [] else [ye]) ++ rfs r
end
section
def PT.size : PT → Nat
 | .stop => 0
 | .ask _ n y => 1 + n.size + y.size
def rot (P : List C3) : Int := if P = [] then -1 else 0
end
section
attribute [-simp] DV.cells
attribute [local simp] sliceD cells_st cells_sl cells_i cells_y cells_b cells_s cells_w
theorem lend_e3 (P : List C3) : lendL (P.map e3) = P.map e3 := by rw [lendL_map,List.map_map]; rfl
theorem adopt_e3 (o : Bool) (P : List C3) : adoptL o (P.map e3) = P.map e3 := by rw [adoptL_map,List.map_map]; rfl
theorem new_e3 (P : List C3) : allNewL (P.map e3) = true := by rw [allNewL_all,List.all_map,List.all_eq_true]; intro x _; rfl
theorem al_e3 (P : List C3) : allOldL (P.map e3) = true := by rw [allOldL_all,List.all_map,List.all_eq_true]; intro x _; rfl
theorem lt_e3 (n : Nat) (P : List C3) : lendL (List.take n (P.map e3)) = List.take n (P.map e3) := by rw [← List.map_take,lend_e3]
attribute [local simp] lend_e3 adopt_e3 new_e3 al_e3 lt_e3
def C3.nx (c : C3) (b : Bool) : Int := if b then c.2.2 else c.2.1
end
section
def aN : List Int → Nat
 | [] => 0
 | k :: r => (if k = -1 then 0 else 1) + 2 * aN r
def kn : List Int → Nat
 | [] => 0
 | k :: r => (if k = -1 then 0 else 1) + kn r
/-- what agrees,as a number -/
def lfW (ks : List Int) : BitVec 32 := agW ks 0 (4294967295#32)
end
section
abbrev Pts := List (Option (List Int))
/-- one goes on to where it is noted -/
def go3 (m : Nat) (t : List T) (N : Nat) (pts : Pts) (p : Int) (a : Int) (ks : List Int) : Prop :=
 (a = -1 ∧ fcd m t ks = true) ∨ (p + 1 ≤ a ∧ a ≤ (N : Int) - 1 ∧ pts[a.toNat]? = some (some ks))
structure Inv (m : Nat) (t : List T) (P : List C3) (p : Nat) (pts : Pts) : Prop where
 len : pts.length = P.length
 nd : (rfs (P.take p)).Nodup
 rng : ∀ a ∈ rfs (P.take p),1 ≤ a ∧ a < P.length
 iff_ : ∀ a : Nat,a < P.length → (pts[a]? ≠ some none ↔ (a = 0 ∨ (a : Int) ∈ rfs (P.take p)))
 ok : ∀ (a : Nat) (ks : List Int),pts[a]? = some (some ks) → ks.length = m ∧ ks.all kOk = true ∧ fcd m t ks = false
 loc : ∀ q : Nat,q < p → ∃ (ks : List Int) (k no ye : Int),P[q]? = some (k,no,ye) ∧ pts[q]? = some (some ks) ∧ (0 ≤ k ∧ k < m) ∧ ks[k.toNat]? = some (-1) ∧ go3 m t P.length pts q no (ks.set k.toNat 0) ∧ go3 m t P.length pts q ye (ks.set k.toNat 1)
theorem none_of {pts : Pts} {a : Nat} (h : a < pts.length) (hn : ¬ pts[a]? ≠ some none) : pts[a]? = some none := Classical.not_not.1 hn
end
section
attribute [-simp] DV.cells
attribute [local simp] sliceD cells_st cells_sl cells_i cells_y cells_b cells_s cells_w
attribute [local simp] lend_e3 adopt_e3 new_e3 al_e3 lt_e3
def pv (m a : Int) (w v : BitVec 32) : DV := .st [.i m,.i a,.w w,.w v]
/-- the point at which so much is known -/
def pD (m : Nat) (t : List T) (ks : List Int) : DV := pv m (aN ks) (lfW ks) (tsW t)
end
section
attribute [-simp] DV.cells
attribute [local simp] sliceD cells_st cells_sl cells_i cells_y cells_b cells_s cells_w
attribute [local simp] lend_e3 adopt_e3 new_e3 al_e3 lt_e3
def e4 (m : Nat) (t : List T) : Option (List Int) → DV
 | some ks => pD m t ks
 | none => pv 0 0 (0#32) (0#32)
end
section
attribute [-simp] DV.cells
attribute [local simp] sliceD cells_st cells_sl cells_i cells_y cells_b cells_s cells_w
attribute [local simp] lend_e3 adopt_e3 new_e3 al_e3 lt_e3
structure Fin (m : Nat) (t : List T) (P : List C3) (L : LT) (pts : Pts) : Prop where
 inv : Inv m t P P.length pts
 start : go3 m t P.length pts (-1) (rot P) (non m)
end
section
/-- the weight of what is known -/
def kp : List T → List Int → Int
 | t :: r,k :: ks => (if k = -1 then 1 else if k = 1 then t.2 else 6 - t.2) * kp r ks
 | _,_ => 1
end
section
attribute [-simp] DV.cells
attribute [local simp] sliceD cells_st cells_sl cells_i cells_y cells_b cells_s cells_w
theorem c_impl_wholeOf {n : Nat} (hn : n ≤ 5) : call lf n_impl_wholeOf [.i n] = some (.i (6 ^ n),[]) := by
 rw [call_k lf n_impl_wholeOf _ (F := F_impl_wholeOf) rfl rfl]
 have L := loop_count (lf := lf) (L := F_impl_wholeOf_L0) n (fun i => ⟨[(3,.i (6 ^ i)),(4,.i n),(5,.i i)],[]⟩) (x := .exit 0) (R := ⟨[(3,.i (6 ^ n)),(4,.i n),(5,.i n)],[]⟩) (fun i hi => by
  have p := p6 (n := i) (by omega)
  have w1 : wr ((i : Int) + 1) = i + 1 := wr_id (by omega) (by omega)
  have w2 : wr ((6 : Int) ^ i * 6) = 6 ^ i * 6 := wr_id (by omega) (by omega)
  simp [F_impl_wholeOf_L0,hi,w1,w2,Int.pow_succ]) (by simp [F_impl_wholeOf_L0]) (by simp)
 have L' : ex lf F_impl_wholeOf_W0 ⟨[(3,.i 1),(4,.i n),(5,.i 0)],[]⟩ = some (.exit 0,⟨[(3,.i (6 ^ n)),(4,.i n),(5,.i n)],[]⟩) := L
 simp [F_impl_wholeOf,L']
end
section
/-- what it costs,the parts in which it ends all,and its whole -/
abbrev I3 := Int × Int × Int
def gM : List I3 → Int
 | [] => 1
 | x :: r => x.2.2 * gM r
def gD : List I3 → Int
 | [] => 0
 | x :: r => x.1 * gM r + (x.2.2 - x.2.1) * gD r
def iOk (x : I3) : Prop := 0 ≤ x.1 ∧ 0 < x.2.1 ∧ x.2.1 ≤ x.2.2
theorem gM_pos : ∀ {l : List I3},(∀ x ∈ l,iOk x) → 0 < gM l
 | [],_ => by simp [gM]
 | x :: r,h => by
  have hx := h x List.mem_cons_self
  have := gM_pos (l := r) (fun y hy => h y (List.mem_cons_of_mem _ hy))
  exact Int.mul_pos (by unfold iOk at hx; omega) this
theorem gM_app : ∀ p q : List I3,gM (p ++ q) = gM p * gM q
 | [],q => by simp [gM]
 | x :: p,q => by simp only [List.cons_append,gM]; rw [gM_app p q,Int.mul_assoc]
theorem gD_nn : ∀ {l : List I3},(∀ x ∈ l,iOk x) → 0 ≤ gD l
 | [],_ => by simp [gD]
 | x :: r,h => by
  obtain ⟨h1,h2,h3⟩ := h x List.mem_cons_self
  have hr : ∀ y ∈ r,iOk y := fun y hy => h y (List.mem_cons_of_mem _ hy)
  have a := Int.mul_nonneg h1 (Int.le_of_lt (gM_pos hr))
  have b := Int.mul_nonneg (show 0 ≤ x.2.2 - x.2.1 by omega) (gD_nn hr)
  simp only [gD]
  omega
end
section
def pA (us : List T) (k : Nat) : Int := (us.getD k (0,0)).2
theorem pA_bd {us : List T} (h : us.all tOk = true) {k : Nat} (hk : k < us.length) : 1 ≤ pA us k ∧ pA us k ≤ 5 := by
 unfold pA
 have e : us.getD k (0,0) = us[k] := by simp [List.getD,hk]
 rw [e]
 have := tOk_iff.1 (List.all_eq_true.1 h us[k] (List.getElem_mem hk))
 omega
/-- groups: all tests,each once -/
structure Gok (m : Nat) (L : List (List Nat)) : Prop where
 lt : ∀ g ∈ L,∀ k ∈ g,k < m
 nd : L.flatten.Nodup
 all : ∀ k,k < m → k ∈ L.flatten
 ne : ∀ g ∈ L,g ≠ []
end
section
theorem gok_len {m : Nat} {L : List (List Nat)} (G : Gok m L) : L.flatten.length = m := by
 have : L.flatten.Perm (List.range m) := (List.perm_ext_iff_of_nodup G.nd List.nodup_range).2 fun k => by
  rw [List.mem_range]
  refine ⟨fun hk => ?_,G.all k⟩
  obtain ⟨g,h1,h2⟩ := List.mem_flatten.1 hk
  exact G.lt g h1 k h2
 rw [this.length_eq,List.length_range]
end
section
attribute [-simp] DV.cells
attribute [local simp] sliceD cells_st cells_sl cells_i cells_y cells_b cells_s cells_w
theorem lend_eR (L : List (List Int)) : lendL (L.map eR) = L.map eR := by
 rw [lendL_map,List.map_map]
 apply List.map_congr_left
 intro r _
 simp [eR,DV.lend]
theorem al_eR (L : List (List Int)) : allOldL (L.map eR) = true := by
 rw [allOldL_all,List.all_map,List.all_eq_true]
 intro r _
 simp [eR,DV.allOld]
attribute [local simp] lend_eR al_eR
def gokB (m : Int) (L : List (List Int)) : Bool := L.all (fun r => !r.isEmpty) && orOk m L.flatten
def gAl (m : Int) : Nat → List (List Int) → Bool
 | _,[] => true
 | n,r :: L => decide (1 ≤ (r.length : Int) ∧ (r.length : Int) ≤ m - n) && gAl m (n + r.length) L
theorem gAl_iff {m : Int} : ∀ {L : List (List Int)} {n : Nat},(n : Int) ≤ m → (gAl m n L = true ↔ L.all (fun r => !r.isEmpty) = true ∧ ((n + L.flatten.length : Nat) : Int) ≤ m)
 | [],n,h => by simp [gAl,h]
 | r :: L,n,h => by
  simp only [gAl,Bool.and_eq_true,decide_eq_true_eq,List.all_cons,List.flatten_cons,List.length_append]
  by_cases hr : (r.length : Int) ≤ m - n
  ·rw [gAl_iff (L := L) (n := n + r.length) (by omega)]
   cases r with
   | nil => simp
   | cons a r =>
    simp only [List.isEmpty_cons,Bool.not_false,true_and,List.length_cons] at *
    constructor
    ·rintro ⟨_,h1,h2⟩; exact ⟨h1,by omega⟩
    ·rintro ⟨h1,h2⟩; exact ⟨⟨by omega,by omega⟩,h1,by omega⟩
  ·constructor
   ·rintro ⟨⟨_,h2⟩,_⟩; exact absurd h2 hr
   ·rintro ⟨_,h2⟩; omega
theorem gokB_al {m : Int} (hm : 1 ≤ m ∧ m ≤ 5) (L : List (List Int)) : gokB m L = (gAl m 0 L && orOk m L.flatten) := by
 unfold gokB
 cases h : orOk m L.flatten with
 | false => simp
 | true =>
  have := orOk_len h
  rw [Bool.and_true,Bool.and_true,Bool.eq_iff_iff,gAl_iff (by omega)]
  exact ⟨fun h => ⟨h,by omega⟩,fun h => h.1⟩
def stGk (m : Int) (L : List (List Int)) (acc : List Int) (k : Nat) : LS := ⟨[(0,.i m),(5,.own 2568 acc.length 0 acc.length),(11,.sl 0 (L.map eR)),(12,.i L.length),(13,.i k)],[(2568,acc.map .i)]⟩
theorem l_impl_GroupsOk {m : Int} (hm : 1 ≤ m ∧ m ≤ 5) (A : List (List Int)) (hb : (A.length : Int) < 1099511627776) : ∀ (L : List (List Int)) (k : Nat) (acc : List Int),(acc.length : Int) ≤ m → k + L.length = A.length → A.drop k = L →
  ex lf F_impl_GroupsOk_W0 (stGk m A acc k) = if gAl m acc.length L = true then some (.exit 0,stGk m A (acc ++ L.flatten) A.length) else some (.ret,⟨[(4,.b false)],[]⟩)
 | [],k,acc,ha,hk,hd => by
  have e : k = A.length := by simpa using hk
  subst e
  rw [w_impl_GroupsOk_0]
  simp [stGk,F_impl_GroupsOk_L0,gAl]
 | r :: L,k,acc,ha,hk,hd => by
  simp only [List.length_cons] at hk
  have hlt : (k : Int) < A.length := by omega
  have hd2 : A.drop (k + 1) = L := by rw [← List.drop_drop,hd]; rfl
  have hat : A[k]? = some r := by
   have := congrArg (fun l => l[0]?) hd
   simpa using this
  have at1 : atI (A.map eR) (k : Int) = some (.sl 0 (r.map .i)) := by
   simp only [atI,if_pos (Int.natCast_nonneg k)]
   show (A.map eR)[(k : Int).toNat]? = _
   rw [Int.toNat_natCast,List.getElem?_map,hat]; rfl
  have w1 : wr ((k : Int) + 1) = ((k + 1 : Nat) : Int) := by rw [wr_id (by omega) (by omega)]; omega
  have w2 : wr (m - acc.length) = m - acc.length := wr_id (by omega) (by omega)
  have W := c_impl_isWithin (r.length : Int) 1 (m - acc.length)
  rw [w_impl_GroupsOk_0]
  by_cases hr : 1 ≤ (r.length : Int) ∧ (r.length : Int) ≤ m - acc.length
  ·rw [decide_eq_true hr] at W
   have ih := l_impl_GroupsOk hm A hb L (k + 1) (acc ++ r) (by simp; omega) (by omega) hd2
   have e : gAl m acc.length (r :: L) = gAl m (acc ++ r).length L := by simp only [gAl]; rw [decide_eq_true hr]; simp
   rw [e,List.flatten_cons,← List.append_assoc,← ih]
   have c1 : acc.length + r.length ≤ bound := by unfold bound; omega
   unfold stGk
   simp [F_impl_GroupsOk_L0,hlt,at1,w1,w2,W,c1,-Int.natCast_add]
  ·rw [decide_eq_false hr] at W
   have e : gAl m acc.length (r :: L) = false := by simp only [gAl]; rw [decide_eq_false hr]; rfl
   rw [e]
   unfold stGk
   simp [F_impl_GroupsOk_L0,hlt,at1,w1,w2,W,-Int.natCast_add]
theorem c_impl_GroupsOk (m : Int) (L : List (List Int)) (hb : (L.length : Int) < 1099511627776) : call lf n_impl_GroupsOk [.i m,.sl 0 (L.map eR)] = some (.b (gokB m L),[]) := by
 rw [call_k lf n_impl_GroupsOk _ (F := F_impl_GroupsOk) rfl rfl]
 cases h1 : nOk m with
 | false =>
  have e : gokB m L = false := by unfold gokB orOk; simp [h1]
  simp [F_impl_GroupsOk,c_impl_manyOk,h1,e]
 | true =>
  have hm := nOk_iff.1 h1
  rw [gokB_al hm]
  have I := l_impl_GroupsOk hm L hb L 0 [] (by simp; omega) (by simp) rfl
  unfold stGk at I
  simp only [List.length_nil,List.map_nil,Int.natCast_zero,List.nil_append] at I
  cases h2 : gAl m 0 L with
  | false =>
   rw [h2] at I
   simp at I
   simp [F_impl_GroupsOk,c_impl_manyOk,h1,I]
  | true =>
   rw [h2,if_pos rfl] at I
   have l5 := ((gAl_iff (n := 0) (by omega)).1 h2).2
   have C := c_impl_OrderOk m L.flatten (by omega)
   generalize L.flatten = M at *
   have tk : List.take M.length (M.map DV.i) = M.map .i := List.take_of_length_le (by simp)
   simp [F_impl_GroupsOk,c_impl_manyOk,h1,I,C,tk]
end
section
attribute [-simp] DV.cells
attribute [local simp] sliceD cells_st cells_sl cells_i cells_y cells_b cells_s cells_w
attribute [local simp] lend_eR al_eR
theorem at_eR {A : List (List Int)} {k : Nat} {r : List Int} (h : A[k]? = some r) : atI (A.map eR) (k : Int) = some (.sl 0 (r.map .i)) := by
 simp only [atI,if_pos (Int.natCast_nonneg k)]
 show (A.map eR)[(k : Int).toNat]? = _
 rw [Int.toNat_natCast,List.getElem?_map,h]; rfl
theorem atI_int {r : List Int} {j : Nat} {a : Int} (h : r[j]? = some a) : atI (r.map DV.i) (j : Int) = some (.i a) := by
 simp only [atI,if_pos (Int.natCast_nonneg j)]
 show (r.map DV.i)[(j : Int).toNat]? = _
 rw [Int.toNat_natCast,List.getElem?_map,h]; rfl
theorem drop_cons {α : Type} {A : List α} {k : Nat} {r : α} {L : List α} (h : A.drop k = r :: L) : k < A.length ∧ A[k]? = some r ∧ A.drop (k + 1) = L := by
 have hk : k < A.length := by
  rcases Nat.lt_or_ge k A.length with h1 | h1
  ·exact h1
  ·rw [List.drop_eq_nil_of_le h1] at h; cases h
 refine ⟨hk,?_,by rw [← List.drop_drop,h]; rfl⟩
 have := congrArg (fun l => l[0]?) h
 simpa using this
theorem wr_succ {k : Nat} (h : (k : Int) < 1099511627776) : wr ((k : Int) + 1) = ((k + 1 : Nat) : Int) := by rw [wr_id (by omega) (by omega)]; omega
def stGi (m : Int) (A : List (List Int)) (so n k j : Nat) : LS := ⟨[(0,.i m),(1,.sl 0 (A.map eR)),(5,.i so),(6,.i n),(7,.i k),(8,.i j)],[]⟩
theorem gs_inner (m : Int) (A : List (List Int)) {k : Nat} {R : List Int} (hk : A[k]? = some R) (hkl : (k : Int) < A.length) : ∀ (r : List Int) (j so n : Nat),so < 32 → ((n + r.length : Nat) : Int) < 1099511627776 → (R.length : Int) < 1099511627776 → R.drop j = r → j + r.length = R.length →
  ex lf F_spec_GroupsOk_W1 (stGi m A so n k j) = if orS (min m 5) so r = true then some (.exit 2,stGi m A (setO so r) (n + r.length) k R.length) else some (.ret,⟨[(4,.b false)],[]⟩) := by
 intro r
 induction r with
 | nil =>
  intro j so n hs hn hR hd hj
  have at1 := at_eR hk
  have e : j = R.length := by simpa using hj
  subst e
  rw [w_spec_GroupsOk_1]
  simp [stGi,F_spec_GroupsOk_L1,orS,setO,at1,hkl]
 | cons a r ih0 =>
  intro j so n hs hn hR hd hj
  have at1 := at_eR hk
  obtain ⟨j1,j2,j3⟩ := drop_cons hd
  have j1' : (j : Int) < R.length := by omega
  have at2 := atI_int j2
  simp only [List.length_cons] at hn hj
  have w1 := wr_succ (k := j) (by omega)
  have w2 := wr_succ (k := n) (by omega)
  rw [w_spec_GroupsOk_1]
  by_cases a0 : a < 0
  ·have e2 : decide (0 ≤ a ∧ a < min m 5) = false := decide_eq_false (by omega)
   simp only [orS,e2,Bool.false_and]
   simp [stGi,F_spec_GroupsOk_L1,at1,at2,hkl,j1,j1',a0]
  ·by_cases a1 : m ≤ a
   ·have e2 : decide (0 ≤ a ∧ a < min m 5) = false := decide_eq_false (by omega)
    simp only [orS,e2,Bool.false_and]
    simp [stGi,F_spec_GroupsOk_L1,at1,at2,hkl,j1,j1',a0,a1]
   ·by_cases a5 : 5 ≤ a
    ·have e2 : decide (0 ≤ a ∧ a < min m 5) = false := decide_eq_false (by omega)
     simp only [orS,e2,Bool.false_and]
     simp [stGi,F_spec_GroupsOk_L1,at1,at2,hkl,j1,j1',a0,a1,a5]
    ·have e2 : decide (0 ≤ a ∧ a < min m 5) = true := decide_eq_true (by omega)
     have o := or_i (so := so) (by omega) (by omega : 0 ≤ a) (by omega : a < 5)
     have bb := bit_bI (a := so) (s := a.toNat) (by omega)
     rw [Int.toNat_of_nonneg (by omega)] at bb
     have ih := ih0 (j + 1) (so ||| 2 ^ a.toNat) (n + 1) (or_lt2 (m := 5) hs (by omega)) (by omega) hR j3 (by omega)
     rw [show n + 1 + r.length = n + (r.length + 1) by omega] at ih
     simp only [orS,e2,Bool.true_and,setO,List.length_cons]
     unfold stGi at *
     cases hb : so.testBit a.toNat with
     | true =>
      rw [hb] at bb
      have q : (bI true == 1) = true := rfl
      simp [F_spec_GroupsOk_L1,at1,at2,hkl,j1,j1',a0,a1,a5,bb,q]
     | false =>
      rw [hb] at bb
      have q : (bI false == 1) = false := rfl
      simp [F_spec_GroupsOk_L1,at1,at2,hkl,j1,j1',a0,a1,a5,bb,q,o,w1,w2,ih,-Int.natCast_add]
def gSp (m : Int) : Nat → List (List Int) → Bool
 | _,[] => true
 | so,r :: L => !r.isEmpty && (orS m so r && gSp m (setO so r) L)
theorem gSp_eq (m : Int) : ∀ (L : List (List Int)) (so : Nat),gSp m so L = (L.all (fun r => !r.isEmpty) && orS m so L.flatten)
 | [],so => by simp [gSp,orS]
 | r :: L,so => by
  simp only [gSp,List.all_cons,List.flatten_cons,orS_app,gSp_eq m L]
  cases r.isEmpty <;> cases orS m so r <;> simp
theorem setO32 {m : Int} : ∀ {os : List Int} {so : Nat},so < 32 → orS (min m 5) so os = true → setO so os < 32
 | [],_,h,_ => h
 | a :: r,so,h,ho => by
  obtain ⟨h1,h2,h3⟩ := orS_cons.1 ho
  exact setO32 (os := r) (or_lt2 (m := 5) h (by omega)) h3
def stGo (m : Int) (A : List (List Int)) (so n k : Nat) : LS := ⟨[(0,.i m),(1,.sl 0 (A.map eR)),(5,.i so),(6,.i n),(7,.i k)],[]⟩
theorem gs_outer (m : Int) (A : List (List Int)) (hb : (A.length : Int) < 1099511627776) : ∀ (L : List (List Int)) (k so n : Nat),so < 32 → ((n + L.flatten.length : Nat) : Int) < 1099511627776 → A.drop k = L → k + L.length = A.length →
  ex lf F_spec_GroupsOk_W0 (stGo m A so n k) = if gSp (min m 5) so L = true then some (.exit 0,stGo m A (setO so L.flatten) (n + L.flatten.length) A.length) else some (.ret,⟨[(4,.b false)],[]⟩) := by
 intro L
 induction L with
 | nil =>
  intro k so n hs hn hd hk
  have e : k = A.length := by simpa using hk
  subst e
  rw [w_spec_GroupsOk_0]
  simp [stGo,F_spec_GroupsOk_L0,gSp,setO]
 | cons R L ih0 =>
  intro k so n hs hn hd hk
  obtain ⟨k1,k2,k3⟩ := drop_cons hd
  have k1' : (k : Int) < A.length := by omega
  have at1 := at_eR k2
  simp only [List.flatten_cons,List.length_append] at hn
  simp only [List.length_cons] at hk
  have w1 := wr_succ (k := k) (by omega)
  rw [w_spec_GroupsOk_0]
  by_cases h0 : R = []
  ·subst h0
   simp only [gSp]
   simp [stGo,F_spec_GroupsOk_L0,k1,k1',at1]
  ·have I := gs_inner m A k2 k1' R 0 so n hs (by omega) (by omega) rfl (by simp)
   have e0 : R.isEmpty = false := by simpa using h0
   have r0 : ((R.length : Int) == 0) = false := by have := List.length_pos_iff.2 h0; exact beq_false_of_ne (by omega)
   simp only [gSp,e0,Bool.not_false,Bool.true_and]
   unfold stGi at I
   unfold stGo at *
   simp only [Int.natCast_zero] at I
   cases h1 : orS (min m 5) so R with
   | false =>
    rw [h1] at I
    simp at I
    simp [F_spec_GroupsOk_L0,k1,k1',at1,r0,I]
   | true =>
    rw [h1,if_pos rfl] at I
    have ih := ih0 (k + 1) (setO so R) (n + R.length) (setO32 hs h1) (by omega) k3 (by omega)
    rw [← Nat.add_assoc,List.flatten_cons,setO_app,List.length_append,← Nat.add_assoc] at *
    simp only [Bool.true_and]
    simp [F_spec_GroupsOk_L0,k1,k1',at1,r0,I,w1,ih,-Int.natCast_add,-List.length_flatten]
theorem c_spec_GroupsOk (m : Int) (L : List (List Int)) (hb : (L.length : Int) < 1099511627776) (hf : (L.flatten.length : Int) < 1099511627776) : call lf n_spec_GroupsOk [.i m,.sl 0 (L.map eR)] = some (.b (gokB m L),[]) := by
 rw [call_k lf n_spec_GroupsOk _ (F := F_spec_GroupsOk) rfl rfl]
 have I := gs_outer m L hb L 0 0 0 (by omega) (by omega) rfl (by simp)
 unfold stGo at I
 simp only [Int.natCast_zero,Nat.zero_add] at I
 have e1 : nOk m = decide (1 ≤ m ∧ m ≤ 5) := rfl
 rw [gSp_eq] at I
 unfold gokB orOk
 rw [e1]
 by_cases hm : 1 ≤ m ∧ m ≤ 5
 ·have h1 : decide (1 ≤ m ∧ m ≤ 5) = true := decide_eq_true hm
  have e5 : min m 5 = m := by omega
  rw [e5] at I
  rw [h1]
  cases h3 : (L.all (fun r => !r.isEmpty) && orS m 0 L.flatten) with
  | false =>
   rw [h3] at I
   simp at I
   have e : (L.all (fun r => !r.isEmpty) && (true && decide ((L.flatten.length : Int) = m) && orS m 0 L.flatten)) = false := by
    rw [Bool.true_and,← Bool.and_assoc,Bool.and_right_comm,h3]; rfl
   rw [e]
   simp [F_spec_GroupsOk,I]
  | true =>
   rw [h3,if_pos rfl] at I
   rw [Bool.and_eq_true] at h3
   rw [h3.1,h3.2]
   generalize L.flatten.length = z at *
   simp [F_spec_GroupsOk,I,c_spec_l1In,h1,Bool.beq_eq_decide_eq]
 ·have h1 : decide (1 ≤ m ∧ m ≤ 5) = false := decide_eq_false hm
  rw [h1]
  cases h3 : (L.all (fun r => !r.isEmpty) && orS (min m 5) 0 L.flatten) with
  | false =>
   rw [h3] at I
   simp at I
   simp [F_spec_GroupsOk,I]
  | true =>
   rw [h3,if_pos rfl] at I
   generalize L.flatten.length = z at *
   simp [F_spec_GroupsOk,I,c_spec_l1In,h1]
end
section
attribute [-simp] DV.cells
attribute [local simp] sliceD cells_st cells_sl cells_i cells_y cells_b cells_s cells_w
attribute [local simp] lend_eR al_eR
theorem c_szIntS (r : List Int) (left : Int) (hl : 0 ≤ left ∧ left ≤ 1048576) (hr : r.length ≤ Go.maxLen) : call lf n_laws_szIntS [.sl 0 (r.map .i),.i left] = some (.i (if (r.length : Int) ≤ left then left - r.length else -1),[]) := by
 rw [call_k lf n_laws_szIntS _ (F := F_laws_szIntS) rfl rfl]
 have hm : Go.maxLen = 9223372036854775807 := rfl
 have w1 : wr (left - r.length) = left - r.length := wr_id (by omega) (by omega)
 by_cases h : (r.length : Int) ≤ left
 ·have n0 : ¬ left - (r.length : Int) < 0 := by omega
  simp [F_laws_szIntS,w1,h,n0]
 ·have n0 : left - (r.length : Int) < 0 := by omega
  simp [F_laws_szIntS,w1,h,n0]
def szL (left : Int) : List (List Int) → Int
 | [] => left
 | r :: L => if (r.length : Int) ≤ left then szL (left - r.length) L else -1
theorem szL_ge : ∀ {L : List (List Int)} {left : Int},0 ≤ szL left L → (L.flatten.length : Int) ≤ left
 | [],left,h => by simpa [szL] using h
 | r :: L,left,h => by
  simp only [szL] at h
  split at h
  ·have := szL_ge h
   simp only [List.flatten_cons,List.length_append]; omega
  ·omega
def stSz (A : List (List Int)) (left : Int) (k : Nat) : LS := ⟨[(0,.sl 0 (A.map eR)),(1,.i left),(5,.i k)],[]⟩
theorem sz_loop (A : List (List Int)) (hA : A.length ≤ 1048576) : ∀ (L : List (List Int)) (k : Nat) (left : Int),(∀ r ∈ L,r.length ≤ Go.maxLen) → 0 ≤ left ∧ left ≤ 1048576 → A.drop k = L → k + L.length = A.length →
  (szL left L < 0 → ex lf F_laws_szIntSS_W0 (stSz A left k) = some (.ret,⟨[(4,.i (-1))],[]⟩)) ∧ (0 ≤ szL left L → ex lf F_laws_szIntSS_W0 (stSz A left k) = some (.exit 0,stSz A (szL left L) A.length)) := by
 intro L
 induction L with
 | nil =>
  intro k left hr hl hd hk
  have e : k = A.length := by simpa using hk
  subst e
  refine ⟨fun h => by simp only [szL] at h; omega,fun h => ?_⟩
  rw [w_laws_szIntSS_0]
  simp [stSz,F_laws_szIntSS_L0,szL]
 | cons r L ih0 =>
  intro k left hr hl hd hk
  obtain ⟨k1,k2,k3⟩ := drop_cons hd
  have k1' : (k : Int) < A.length := by omega
  have at1 := at_eR k2
  simp only [List.length_cons] at hk
  have w1 := wr_succ (k := k) (by omega)
  have C := c_szIntS r left hl (hr r (by simp))
  simp only [szL]
  unfold stSz at *
  by_cases h : (r.length : Int) ≤ left
  ·have ih := ih0 (k + 1) (left - r.length) (fun x hx => hr x (by simp [hx])) (by omega) k3 (by omega)
   rw [if_pos h] at C ⊢
   have n0 : ¬ left - (r.length : Int) < 0 := by omega
   refine ⟨fun hs => ?_,fun hs => ?_⟩
   ·rw [w_laws_szIntSS_0]
    have ih := ih.1 hs
    simp [F_laws_szIntSS_L0,k1,k1',at1,C,n0,w1,ih,-Int.natCast_add]
   ·rw [w_laws_szIntSS_0]
    have ih := ih.2 hs
    simp [F_laws_szIntSS_L0,k1,k1',at1,C,n0,w1,ih,-Int.natCast_add]
  ·rw [if_neg h] at C ⊢
   refine ⟨fun hs => ?_,fun hs => by omega⟩
   rw [w_laws_szIntSS_0]
   simp [F_laws_szIntSS_L0,k1,k1',at1,C]
/-- either it is too large,or this is what it says -/
theorem c_szIntSS (L : List (List Int)) (left : Int) (hl : 0 ≤ left ∧ left ≤ 1048576) (hL : L.length ≤ Go.maxLen) (hr : ∀ r ∈ L,r.length ≤ Go.maxLen) :
  call lf n_laws_szIntSS [.sl 0 (L.map eR),.i left] = some (.i (-1),[]) ∨ ∃ z : Int,0 ≤ z ∧ z ≤ left ∧ (L.length : Int) ≤ left ∧ (L.flatten.length : Int) ≤ left ∧ call lf n_laws_szIntSS [.sl 0 (L.map eR),.i left] = some (.i z,[]) := by
 have hm : Go.maxLen = 9223372036854775807 := rfl
 have w1 : wr (left - L.length) = left - L.length := wr_id (by omega) (by omega)
 rw [call_k lf n_laws_szIntSS _ (F := F_laws_szIntSS) rfl rfl]
 by_cases h : (L.length : Int) ≤ left
 ·have I := sz_loop L (by omega) L 0 (left - L.length) hr (by omega) rfl (by simp)
  unfold stSz at I
  simp only [Int.natCast_zero] at I
  have n0 : ¬ left - (L.length : Int) < 0 := by omega
  by_cases hs : 0 ≤ szL (left - L.length) L
  ·have I := I.2 hs
   have g := szL_ge hs
   have u : ∀ (L : List (List Int)) (a : Int),szL a L ≤ a ∨ szL a L = -1 := by
    intro L
    induction L with
    | nil => intro a; left; simp [szL]
    | cons r L ih =>
     intro a
     simp only [szL]
     split
     ·rcases ih (a - r.length) with h | h
      ·left; omega
      ·right; exact h
     ·right; rfl
   refine .inr ⟨szL (left - L.length) L,hs,?_,h,by omega,?_⟩
   ·rcases u L (left - L.length) with h | h <;> omega
   ·simp [F_laws_szIntSS,w1,n0,I]
  ·have I := I.1 (by omega)
   left
   simp [F_laws_szIntSS,w1,n0,I]
 ·left
  have n0 : left - (L.length : Int) < 0 := by omega
  simp [F_laws_szIntSS,w1,n0]
/-- rows that are new -/
def eN (r : List Int) : DV := .sl 1 (r.map .i)
theorem lend_eN (L : List (List Int)) : lendL (L.map eN) = L.map eR := by
 rw [lendL_map,List.map_map]
 apply List.map_congr_left
 intro r _
 simp [eN,eR,DV.lend]
theorem adopt_eN (o : Bool) (L : List (List Int)) : adoptL o (L.map eN) = L.map eN := by
 rw [adoptL_map,List.map_map]
 apply List.map_congr_left
 intro r _
 simp [eN,DV.adopt,adoptP]
theorem new_eN (L : List (List Int)) : allNewL (L.map eN) = true := by
 rw [allNewL_all,List.all_map,List.all_eq_true]
 intro r _
 simp [eN,DV.allNew,newP]
attribute [local simp] lend_eN adopt_eN new_eN
def cN (A : List (List Int)) (i : Nat) : List DV := (A.take i).map eN ++ List.replicate (A.length - i) (.sl 1 [])
theorem cN_len {A : List (List Int)} {i : Nat} (hi : i ≤ A.length) : (cN A i).length = A.length := by simp [cN]; omega
theorem cN_set {A : List (List Int)} {i : Nat} {r : List Int} (hi : i < A.length) (h : A[i]? = some r) : (cN A i).set i (.sl 1 (r.map .i)) = cN A (i + 1) := by
 have e : ((A.take i).map eN).length = i := by simp; omega
 unfold cN
 rw [List.set_append_right _ _ (by omega),e,Nat.sub_self,List.take_add_one,h,show A.length - i = (A.length - (i + 1)) + 1 by omega,List.replicate_succ,List.set_cons_zero,Option.toList_some,List.map_append,List.append_assoc]
 rfl
theorem cN_get {A : List (List Int)} {i : Nat} (hi : i < A.length) : atN (cN A i) i = some (.sl 1 []) := by
 show (cN A i)[i]? = _
 have : ((A.take i).map eN).length = i := by simp; omega
 unfold cN
 rw [List.getElem?_append_right (by omega),this,Nat.sub_self,List.getElem?_replicate]
 simp; omega
theorem cN_zero (A : List (List Int)) : cN A 0 = List.replicate A.length (.sl 1 []) := by simp [cN]
theorem cN_all (A : List (List Int)) : cN A A.length = A.map eN := by simp [cN]
theorem c_toIntSS (A : List (List Int)) (hA : (A.length : Int) ≤ 1048576) (hr : ∀ r ∈ A,(r.length : Int) ≤ 1048576) : call lf n_laws_toIntSS [.sl 0 (A.map eR)] = some (.fr 1 (A.map eN),[]) := by
 rw [call_k lf n_laws_toIntSS _ (F := F_laws_toIntSS) rfl rfl]
 have L : ex lf F_laws_toIntSS_W0 ⟨[(0,.sl 0 (A.map eR)),(3,.own 3592 A.length 0 A.length),(4,.i 0)],[(3592,cN A 0)]⟩ =
   some (.exit 0,⟨[(0,.sl 0 (A.map eR)),(3,.own 3592 A.length 0 A.length),(4,.i A.length)],[(3592,cN A A.length)]⟩) := by
  refine loop_count A.length (fun i => ⟨[(0,.sl 0 (A.map eR)),(3,.own 3592 A.length 0 A.length),(4,.i i)],[(3592,cN A i)]⟩) (fun i hi => ?_) ?_ (by simp)
  ·have hi' : (i : Int) < A.length := by omega
   have k2 : A[i]? = some A[i] := List.getElem?_eq_getElem hi
   have at1 := at_eR k2
   have T := c_toIntS A[i] (hr _ (List.getElem_mem hi))
   have w1 : wr ((i : Int) + 1) = (i : Int) + 1 := wr_id (by omega) (by omega)
   have c1 := cN_len (A := A) (i := i) (by omega)
   have c2 := cN_get hi
   have c3 := cN_set hi k2
   have tk : List.take A[i].length (A[i].map DV.i) = A[i].map .i := List.take_of_length_le (by simp)
   generalize A[i] = r at *
   simp [F_laws_toIntSS_L0,hi,hi',at1,T,w1,c1,c2,c3,tk]
  ·simp [F_laws_toIntSS_L0]
 have b1 : (A.length : Int) ≤ bound := by unfold bound; omega
 rw [cN_zero,cN_all] at L
 simp [F_laws_toIntSS,b1,L]
theorem c_eqIntSS_self (A : List (List Int)) (hA : (A.length : Int) ≤ 1048576) (hr : ∀ r ∈ A,(r.length : Int) ≤ 1048576) : call lf n_laws_eqIntSS [.sl 0 (A.map eR),.sl 0 (A.map eR)] = some (.b true,[]) := by
 rw [call_k lf n_laws_eqIntSS _ (F := F_laws_eqIntSS) rfl rfl]
 have L : ex lf F_laws_eqIntSS_W0 ⟨[(0,.sl 0 (A.map eR)),(1,.sl 0 (A.map eR)),(5,.i 0)],[]⟩ = some (.exit 0,⟨[(0,.sl 0 (A.map eR)),(1,.sl 0 (A.map eR)),(5,.i A.length)],[]⟩) := by
  refine loop_count A.length (fun i => ⟨[(0,.sl 0 (A.map eR)),(1,.sl 0 (A.map eR)),(5,.i i)],[]⟩) (fun i hi => ?_) ?_ (by simp)
  ·have hi' : (i : Int) < A.length := by omega
   have k2 : A[i]? = some A[i] := List.getElem?_eq_getElem hi
   have at1 := at_eR k2
   have T := c_eqIntS_self A[i] (hr _ (List.getElem_mem hi))
   have w1 : wr ((i : Int) + 1) = (i : Int) + 1 := wr_id (by omega) (by omega)
   generalize A[i] = r at *
   simp [F_laws_eqIntSS_L0,hi,hi',at1,T,w1]
  ·simp [F_laws_eqIntSS_L0]
 simp [F_laws_eqIntSS,L]
end
section
attribute [-simp] DV.cells
attribute [local simp] sliceD cells_st cells_sl cells_i cells_y cells_b cells_s cells_w
attribute [local simp] lend_eR al_eR lend_eN adopt_eN new_eN
theorem mk1_marks (k : Int) (n : Nat) : mk1 k n = (marksI k n).map .i := by simp [mk1,marksI]
set_option maxHeartbeats 4000000 in
theorem cut_markIntS (xs : List Int) (n : Nat) (k : Int) (k0 : 0 ≤ k) (k1 : k ≤ 1000000000) (hn : n ≤ 1048576) (hl : n ≤ xs.length) : ∃ S,ex lf F_laws_markIntS.body ⟨[(0,.own 15 xs.length 0 n),(1,.i k)],[(15,xs.map .i)]⟩ = some (.ret,S) ∧ resV S F_laws_markIntS.results = some [.i (k + n)] ∧ lookO S.ob 15 = some ((marksI k n ++ xs.drop n).map .i) := by
 have L := loop_count (lf := lf) (L := F_laws_markIntS_L0) n (fun i => ⟨[(0,.own 15 xs.length 0 n),(1,.i (k + i)),(5,.i i)],[(15,mk1 k i ++ (xs.map .i).drop i)]⟩) (x := .exit 0) (R := ⟨[(0,.own 15 xs.length 0 n),(1,.i (k + n)),(5,.i n)],[(15,mk1 k n ++ (xs.map .i).drop n)]⟩) (fun i hi => by
  have w1 : wr ((i : Int) + 1) = (i : Int) + 1 := wr_id (by omega) (by omega)
  have w2 : wr (k + i + 1) = k + (i + 1 : Nat) := by rw [wr_id (by omega) (by omega)]; omega
  have hi' : (i : Int) < n := by omega
  have hix : i < xs.length := by omega
  have hix' : (i : Int) < xs.length := by omega
  have e := split_at (es := xs.map DV.i) (i := i) (by simpa using hix)
  rw [List.getElem_map] at e
  rw [mk1_succ,e]
  have hA := mk1_len k i
  have lB : (List.drop (i + 1) (xs.map DV.i)).length = xs.length - (i + 1) := by simp
  generalize xs[i] = x at *
  generalize List.drop (i + 1) (xs.map DV.i) = B at *
  generalize mk1 k i = A at *
  have q1 := mid_at (B := B) hA
  have q2 := mid_set (B := B) hA
  have q3 : ∀ x : DV,(A ++ x :: B).length = xs.length := fun x => by simp [hA,lB]; omega
  rw [show A ++ [DV.i (k + ↑i)] ++ B = A ++ DV.i (k + ↑i) :: B by simp]
  have tl : (List.take n (A ++ DV.i x :: B)).length = n := by rw [List.length_take,q3]; omega
  simp [F_laws_markIntS_L0,hi,hi',hix,hix',hl,w1,w2,q1,q2,q3,tl,-List.length_append,-List.length_cons]) (by
  have lm : (mk1 k n ++ List.drop n (xs.map DV.i)).length = xs.length := by rw [List.length_append,mk1_len,List.length_drop,List.length_map]; omega
  have tl : (List.take n (mk1 k n ++ List.drop n (xs.map DV.i))).length = n := by rw [List.length_take,lm]; omega
  generalize mk1 k n ++ List.drop n (xs.map DV.i) = Z at *
  simp [F_laws_markIntS_L0,lm,tl,hl]) (by simp)
 have z : mk1 k 0 ++ (xs.map DV.i).drop 0 = xs.map .i := by simp [mk1]
 rw [z] at L
 have L' : ex lf F_laws_markIntS_W0 ⟨[(0,.own 15 xs.length 0 n),(1,.i k),(5,.i 0)],[(15,xs.map .i)]⟩ = some (.exit 0,⟨[(0,.own 15 xs.length 0 n),(1,.i (k + n)),(5,.i n)],[(15,mk1 k n ++ (xs.map .i).drop n)]⟩) := by
  have := L
  simp only [Int.natCast_zero,Int.add_zero] at this
  exact this
 have fin : mk1 k n ++ (xs.map DV.i).drop n = (marksI k n ++ xs.drop n).map .i := by rw [mk1_marks,List.map_append,List.map_drop]
 rw [fin] at L'
 generalize (marksI k n ++ xs.drop n).map DV.i = Z at *
 simp [F_laws_markIntS,L',resV]
theorem nil_markIntS (k : Int) : call lf n_laws_markIntS [.sl 0 [],.i k] = some (.i k,[]) := by
 rw [call_k lf n_laws_markIntS _ (F := F_laws_markIntS) rfl rfl]
 have L : ex lf F_laws_markIntS_W0 ⟨[(0,.sl 0 []),(1,.i k),(5,.i 0)],[]⟩ = some (.exit 0,⟨[(0,.sl 0 []),(1,.i k),(5,.i 0)],[]⟩) := by
  rw [w_laws_markIntS_0]
  simp [F_laws_markIntS_L0]
 simp [F_laws_markIntS,L]
theorem body_of {P : Go.Program} {dc : Array Go.Oper → Bool} (hok : ∀ f F,lf f = some F → OkF P dc f F) (hD : ∀ Γ,FnSound P Γ → DrawOk P Γ dc) (hB : BackSound P) {f : Nat} {args : List DV} {r : DV × List DV} (h : call lf f args = some r) : hasBody P f = true := by
 obtain ⟨n,hn⟩ := call_iff.1 h
 exact (callN_sound hok hD hB n f args r hn).1
theorem row_markIntS {P : Go.Program} {dc : Array Go.Oper → Bool} (hok : ∀ f F,lf f = some F → OkF P dc f F) (hD : ∀ Γ,FnSound P Γ → DrawOk P Γ dc) (hB : BackSound P) (k : Int) (n : Nat) (k0 : 0 ≤ k) (k1 : k ≤ 1000000000) (hn : n ≤ 1048576) : MarksRow P n_laws_markIntS k n := by
 have hb := body_of hok hD hB (nil_markIntS k)
 exact ⟨hb,fun _ => marks_nil hb (call_sound hok hD hB (nil_markIntS k)),fun _ => marks_cut hok hD hB (F := F_laws_markIntS) rfl rfl rfl rfl (by omega) (fun rs hl => by
  obtain ⟨S,h1,h2,h3⟩ := cut_markIntS rs n k k0 k1 hn hl
  exact ⟨.ret,S,.inr rfl,h1,h2,h3⟩) hb⟩
theorem totR_flat : ∀ L : List (List Int),totR L = L.flatten.length
 | [] => rfl
 | r :: L => by simp only [totR,List.flatten_cons,List.length_append,totR_flat L]
theorem totR_take : ∀ (rs : List (List Int)) (i : Nat),totR (rs.take i) ≤ totR rs
 | [],i => by simp [totR]
 | r :: rs,0 => by simp [totR]
 | r :: rs,i + 1 => by
  have := totR_take rs i
  simp only [List.take_succ_cons,totR]
  omega
theorem totR_mem : ∀ (rs : List (List Int)) (i : Nat) (r : List Int),rs[i]? = some r → r.length ≤ totR rs
 | [],i,r,h => by simp at h
 | s :: rs,0,r,h => by
  simp only [List.getElem?_cons_zero,Option.some.injEq] at h
  subst h
  simp only [totR]
  omega
 | s :: rs,i + 1,r,h => by
  have := totR_mem rs i r (by simpa using h)
  simp only [totR]
  omega
/-- the marks of a row of rows -/
theorem rows_markIntSS {P : Go.Program} {dc : Array Go.Oper → Bool} (hok : ∀ f F,lf f = some F → OkF P dc f F) (hD : ∀ Γ,FnSound P Γ → DrawOk P Γ dc) (hB : BackSound P) (rs : List (List Int)) (k : Int) (k0 : 0 ≤ k) (k1 : k ≤ 100000000) (hn : rs.length ≤ 1048576) (ht : totR rs ≤ 1048576) :
  Marks P n_laws_markIntSS (dRs rs) k (fun d => ∃ ss,d = dRs ss ∧ ss.map List.length = rs.map List.length ∧ (Dst rs → ss = mrkR k rs)) (k + totR rs) :=
 marks_rows hok hD hB (F := F_laws_markIntSS) rfl rfl rfl rfl rfl hn (fun i r hr => row_markIntS hok hD hB _ _ (by omega) (by have := totR_take rs i; omega) (by have := totR_mem rs i r hr; omega))
theorem flat_e2 : ∀ xs : List T,flat (xs.map e2) = xs.flatMap fun x => [DV.i x.1,.i x.2]
 | [] => rfl
 | x :: xs => by rw [List.map_cons,flat_cons,flat_e2 xs]; rfl
theorem ints_e2 (xs : List T) : intsC (flat (xs.map e2)) := by
 rw [flat_e2]
 intro c hc
 obtain ⟨x,_,hx⟩ := List.mem_flatMap.1 hc
 simp only [List.mem_cons,List.not_mem_nil,or_false] at hx
 rcases hx with rfl | rfl
 ·exact ⟨_,rfl⟩
 ·exact ⟨_,rfl⟩
theorem nil_markTestS (k : Int) : call lf n_laws_markTestS [.sl 0 [],.i k] = some (.i k,[]) := by
 rw [call_k lf n_laws_markTestS _ (F := F_laws_markTestS) rfl rfl]
 have L : ex lf F_laws_markTestS_W0 ⟨[(0,.sl 0 []),(1,.i k),(5,.i 0)],[]⟩ = some (.exit 0,⟨[(0,.sl 0 []),(1,.i k),(5,.i 0)],[]⟩) := by
  rw [w_laws_markTestS_0]
  simp [F_laws_markTestS_L0]
 simp [F_laws_markTestS,L]
theorem row_markTestS {P : Go.Program} {dc : Array Go.Oper → Bool} (hok : ∀ f F,lf f = some F → OkF P dc f F) (hD : ∀ Γ,FnSound P Γ → DrawOk P Γ dc) (hB : BackSound P) (xs : List T) (k : Int) (k0 : 0 ≤ k) (k1 : k ≤ 1000000000) (hl : xs.length ≤ 1048576) : Marks P n_laws_markTestS (.sl 1 (xs.map e2)) k (fun _ => True) (k + 2 * xs.length) := by
 have hb := body_of hok hD hB (nil_markTestS k)
 by_cases h : xs = []
 ·subst h
  have := (marks_nil hb (call_sound hok hD hB (nil_markTestS k))).mono (R' := fun _ => True) (fun _ _ => trivial)
  simpa using this
 ·obtain ⟨u,e,_⟩ := mk2_map k xs.length
  have C := call_sound hok hD hB (c_markTestS xs k k0 k1 hl)
  rw [e] at C
  exact (marks_flat hb C (by simpa using h) (fun e he => by
   obtain ⟨x,_,rfl⟩ := List.mem_map.1 he
   rfl) ⟨by omega,by omega⟩ (ints_e2 xs) (ints_e2 u)).mono (fun _ _ => trivial)
end
section
attribute [-simp] DV.cells
attribute [local simp] sliceD cells_st cells_sl cells_i cells_y cells_b cells_s cells_w
theorem row_markIntSf {P : Go.Program} {dc : Array Go.Oper → Bool} (hok : ∀ f F,lf f = some F → OkF P dc f F) (hD : ∀ Γ,FnSound P Γ → DrawOk P Γ dc) (hB : BackSound P) (xs : List Int) (k : Int) (k0 : 0 ≤ k) (k1 : k ≤ 1000000000) (hl : xs.length ≤ 1048576) : Marks P n_laws_markIntS (.sl 1 (xs.map .i)) k (· = .sl 1 ((marksI k xs.length).map .i)) (k + xs.length) := by
 have hb := body_of hok hD hB (nil_markIntS k)
 by_cases h : xs = []
 ·subst h
  have := marks_nil hb (call_sound hok hD hB (nil_markIntS k))
  simpa [marksI] using this
 ·have C := call_sound hok hD hB (c_markIntS xs k k0 k1 hl)
  rw [mk1_marks] at C
  have ii : ∀ l : List Int,intsC (flat (l.map DV.i)) := fun l => by
   rw [flat_ints]
   intro c hc
   obtain ⟨n,_,rfl⟩ := List.mem_map.1 hc
   exact ⟨n,rfl⟩
  exact marks_flat hb C (by simpa using h) (fun e he => by
   obtain ⟨x,_,rfl⟩ := List.mem_map.1 he
   rfl) ⟨by omega,by omega⟩ (ii xs) (ii _)
end
section
structure CS where
 c : Nat → Int
 p : Nat → Int
 q : Nat → Int
 lA : Nat → Nat → Bool
 lB : Nat → Nat → Bool
 ch : List Nat → Nat → Nat
def rk (l : Nat → Nat → Bool) (S : List Nat) (i : Nat) : Nat := S.countP fun x => l x i
/-- what the rule costs -/
def vR (C : CS) : Nat → List Nat → Nat → Int
 | 0,_,_ => 0
 | f + 1,S,k => if k = 0 ∨ S.length < k then 0 else 6 ^ S.length * C.c (C.ch S k) + C.p (C.ch S k) * vR C f (S.erase (C.ch S k)) (k - 1) + C.q (C.ch S k) * vR C f (S.erase (C.ch S k)) k
def CS.V (C : CS) (S : List Nat) (k : Nat) : Int := vR C S.length S k
def CS.W (C : CS) (S : List Nat) (k i : Nat) : Int := 6 ^ S.length * C.c i + C.p i * C.V (S.erase i) (k - 1) + C.q i * C.V (S.erase i) k
end
section
/-- tests,the two orders by ratios,and the least test of both -/
def tltA (us : List T) (a b : Nat) : Bool := decide (cA us a * pA us b < cA us b * pA us a ∨ cA us b * pA us a = cA us a * pA us b ∧ a < b)
def tltB (us : List T) (a b : Nat) : Bool := decide (cA us a * (6 - pA us b) < cA us b * (6 - pA us a) ∨ cA us b * (6 - pA us a) = cA us a * (6 - pA us b) ∧ a < b)
def bothL (us : List T) (S : List Nat) (k : Nat) : List Nat := S.filter fun i => decide (rk (tltA us) S i < k) && decide (rk (tltB us) S i + k ≤ S.length)
def cs (us : List T) : CS := ⟨cA us,pA us,fun i => 6 - pA us i,tltA us,tltB us,fun S k => (bothL us S k).headD 0⟩
end
section
/-- what is not known,and how many yes -/
def unk (m : Nat) (ks : List Int) : List Nat := (List.range m).filter fun k => ks[k]? == some (-1)
end
section
def gS : List I3 → Int
 | [] => 1
 | x :: r => (x.2.2 - x.2.1) * gS r
theorem gD_app : ∀ p q : List I3,gD (p ++ q) = gD p * gM q + gS p * gD q
 | [],q => by simp [gD,gS]
 | x :: p,q => by
  simp only [List.cons_append,gD,gS]
  rw [gD_app p q,gM_app]
  grind
theorem gS_app : ∀ p q : List I3,gS (p ++ q) = gS p * gS q
 | [],q => by simp [gS]
 | x :: p,q => by simp only [List.cons_append,gS]; rw [gS_app p q,Int.mul_assoc]
theorem gS_bd : ∀ {l : List I3},(∀ x ∈ l,iOk x) → 0 ≤ gS l ∧ gS l ≤ gM l
 | [],_ => by simp [gS,gM]
 | x :: r,h => by
  obtain ⟨h1,h2,h3⟩ := h x List.mem_cons_self
  have hr : ∀ y ∈ r,iOk y := fun y hy => h y (List.mem_cons_of_mem _ hy)
  obtain ⟨a,b⟩ := gS_bd hr
  have c := gM_pos hr
  simp only [gS,gM]
  refine ⟨Int.mul_nonneg (by omega) a,?_⟩
  have k1 := Int.mul_le_mul_of_nonneg_right (show x.2.2 - x.2.1 ≤ x.2.2 by omega) a
  have k2 := Int.mul_le_mul_of_nonneg_left b (show 0 ≤ x.2.2 by omega)
  omega
/-- the parts in which a row ends -/
def gE (l : List I3) : Int := gM l - gS l
theorem gE_pos {l : List I3} (h : ∀ x ∈ l,iOk x) (hne : l ≠ []) : 0 < gE l := by
 cases l with
 | nil => exact absurd rfl hne
 | cons x r =>
  obtain ⟨h1,h2,h3⟩ := h x List.mem_cons_self
  have hr : ∀ y ∈ r,iOk y := fun y hy => h y (List.mem_cons_of_mem _ hy)
  obtain ⟨a,b⟩ := gS_bd hr
  have c := gM_pos hr
  unfold gE
  simp only [gS,gM]
  have k1 := Int.mul_le_mul_of_nonneg_left b (show 0 ≤ x.2.2 - x.2.1 by omega)
  have k2 := Int.mul_pos h2 c
  rw [Int.sub_mul] at k1 ⊢
  rw [Int.sub_mul] at k1
  omega
/-- cost less a ratio (x by y) times the parts that end -/
def gf (x y : Int) (l : List I3) : Int := y * gD l - x * gE l
theorem gf_nil (x y : Int) : gf x y [] = 0 := by simp [gf,gD,gE,gM,gS]
theorem gf_cons (x y : Int) (a : I3) (l : List I3) : gf x y (a :: l) = (y * a.1 - x * a.2.1) * gM l + (a.2.2 - a.2.1) * gf x y l := by
 unfold gf gE
 simp only [gD,gM,gS]
 grind
/-- what is carried along never falls below nothing -/
def Car (x y A s : Int) (l : List I3) : Prop := ∀ P Q,l = P ++ Q → 0 ≤ A * gM P + s * gf x y P
theorem Car.next {x y A s : Int} {a : I3} {l : List I3} (h : Car x y A s (a :: l)) : Car x y (A * a.2.2 + s * (y * a.1 - x * a.2.1)) (s * (a.2.2 - a.2.1)) l := fun P Q e => by
 have := h (a :: P) Q (by rw [e]; rfl)
 rw [gf_cons] at this
 simp only [gM] at this
 grind
theorem Car.head {x y A s : Int} {a : I3} {l : List I3} (h : Car x y A s (a :: l)) : 0 ≤ A * a.2.2 + s * (y * a.1 - x * a.2.1) := by
 have := h [a] l rfl
 rw [gf_cons,gf_nil] at this
 simp only [gM] at this
 grind
end
section
/-- again and again the first part with the least ratio -/
inductive Gr : List (List I3) → List I3 → Prop
 | nil (L : List (List I3)) (h : ∀ c ∈ L,c = []) : Gr L []
 | step (A B : List (List I3)) (X W row : List I3) (hne : X ≠ []) (hl : ∀ c ∈ A ++ (X ++ W) :: B,∀ P Q,c = P ++ Q → gD X * gE P ≤ gD P * gE X) (h : Gr (A ++ W :: B) row) : Gr (A ++ (X ++ W) :: B) (X ++ row)
end
section
attribute [-simp] DV.cells
attribute [local simp] sliceD cells_st cells_sl cells_i cells_y cells_b cells_s cells_w
attribute [local simp] lend_eR al_eR
def ni (l : List Nat) : List Int := l.map fun k : Nat => (k : Int)
theorem ni_len (l : List Nat) : (ni l).length = l.length := by simp [ni]
theorem ni_toNat (l : List Nat) : (ni l).map Int.toNat = l := by
 unfold ni
 rw [List.map_map]
 conv => rhs; rw [← List.map_id l]
 apply List.map_congr_left
 intro k _
 simp
theorem ni_app (p q : List Nat) : ni (p ++ q) = ni p ++ ni q := by simp [ni]
theorem atT {us : List T} {k : Nat} (hk : k < us.length) : atI (us.map e2) (k : Int) = some (.st [.i (cA us k),.i (pA us k)]) := by
 simp only [atI,if_pos (Int.natCast_nonneg k)]
 show (us.map e2)[(k : Int).toNat]? = _
 rw [Int.toNat_natCast,List.getElem?_map,List.getElem?_eq_getElem hk]
 unfold cA pA
 simp [List.getD,hk,e2]
theorem cA_bd {us : List T} (h : us.all tOk = true) {k : Nat} (hk : k < us.length) : 1 ≤ cA us k ∧ cA us k ≤ 9 := by
 have := tOk_iff.1 (List.all_eq_true.1 h us[k] (List.getElem_mem hk))
 unfold cA
 simp only [List.getD,List.getElem?_eq_getElem hk,Option.getD_some]
 exact this.1
theorem at_ni {L : List Nat} {j k : Nat} (h : L[j]? = some k) : atI ((ni L).map DV.i) (j : Int) = some (.i k) ∧ atN ((ni L).map DV.i) j = some (.i k) := by
 have h' : (ni L)[j]? = some (k : Int) := by unfold ni; rw [List.getElem?_map,h]; rfl
 refine ⟨atI_int h',?_⟩
 show ((ni L).map DV.i)[j]? = _
 rw [List.getElem?_map,h']; rfl
end
section
/-- rows that keep chains,one by one -/
inductive Wk : List (List Nat) → List Nat → Prop
 | nil (L : List (List Nat)) (h : ∀ c ∈ L,c = []) : Wk L []
 | step (A B : List (List Nat)) (k : Nat) (c row : List Nat) (h : Wk (A ++ c :: B) row) : Wk (A ++ (k :: c) :: B) (k :: row)
theorem wk_perm {L : List (List Nat)} {row : List Nat} (h : Wk L row) : row.Perm L.flatten := by
 induction h with
 | nil L h =>
  have : L.flatten = [] := by rw [List.flatten_eq_nil_iff]; exact h
  rw [this]
 | step A B k c row h ih =>
  rw [List.flatten_append,List.flatten_cons] at ih ⊢
  exact (ih.cons k).trans (by
   have p := (List.perm_middle (a := k) (l₁ := A.flatten) (l₂ := c ++ B.flatten)).symm
   simpa using p)
/-- a test in the row of all -/
def itC (us : List T) (k : Nat) : I3 := (6 * cA us k,6 - pA us k,6)
theorem itC_M (us : List T) (l : List Nat) : gM (l.map (itC us)) = 6 ^ l.length := by
 induction l with
 | nil => rfl
 | cons a r ih => simp only [List.map_cons,gM,List.length_cons]; rw [ih,Int.pow_succ,Int.mul_comm]; rfl
theorem itC_ok {us : List T} (h : us.all tOk = true) {l : List Nat} (hl : ∀ x ∈ l,x < us.length) : ∀ x ∈ l.map (itC us),iOk x := fun x hx => by
 obtain ⟨k,hk,rfl⟩ := List.mem_map.1 hx
 have := pA_bd h (hl k hk)
 have := cA_nn h k
 unfold itC iOk
 simp only
 omega
theorem rA_gC (us : List T) : ∀ (l : List Int) (on : Int),rA us 0 on l = on * gD ((l.map Int.toNat).map (itC us))
 | [],on => by simp [rA,gD]
 | a :: r,on => by
  simp only [rA,List.map_cons,gD]
  rw [rA_gC us r,itC_M,List.length_map,Int.pow_succ]
  have e1 : (itC us a.toNat).1 = 6 * cA us a.toNat := rfl
  have e2 : (itC us a.toNat).2.2 - (itC us a.toNat).2.1 = 6 - (6 - pA us a.toNat) := rfl
  have e3 : eA us 0 a.toNat = 6 - pA us a.toNat := by unfold eA pA; rfl
  rw [e1,e2,e3]
  grind
theorem rA_row (us : List T) (l : List Nat) : rA us 0 1 (ni l) = gD (l.map (itC us)) := by
 rw [rA_gC,ni_toNat,Int.one_mul]
def mnO (f : Nat → Option Int) : Nat → Int
 | 0 => -1
 | i + 1 => match f i with
  | none => mnO f i
  | some n => if mnO f i < 0 ∨ n < mnO f i then n else mnO f i
end
section
def c9 (us : List T) (l : List Nat) : Int := gD (l.map (itC us))
def e9 (us : List T) (l : List Nat) : Int := gE (l.map (itC us))
abbrev LN := List (List Nat)
def fp (L : LN) (i n : Nat) : List Nat := (L.getD i []).take n
/-- one more first part: the one so far stays unless this one's ratio is less -/
def cnd (us : List T) (L : LN) (st : Option (Nat × Nat)) (i n : Nat) : Option (Nat × Nat) := match st with
 | none => some (i,n)
 | some (a,b) => if c9 us (fp L i n) * e9 us (fp L a b) < c9 us (fp L a b) * e9 us (fp L i n) then some (i,n) else some (a,b)
def cndN (us : List T) (L : LN) (i : Nat) (st : Option (Nat × Nat)) : Nat → Option (Nat × Nat)
 | 0 => st
 | n + 1 => cnd us L (cndN us L i st n) i (n + 1)
def cndI (us : List T) (L : LN) : Nat → Option (Nat × Nat)
 | 0 => none
 | i + 1 => cndN us L i (cndI us L i) (L.getD i []).length
/-- the least of those that were seen -/
def lstOf (us : List T) (L : LN) (seen : Nat → Nat → Prop) (st : Option (Nat × Nat)) : Prop := match st with
 | none => ∀ i n,¬ seen i n
 | some (a,b) => seen a b ∧ ∀ i n,seen i n → c9 us (fp L a b) * e9 us (fp L i n) ≤ c9 us (fp L i n) * e9 us (fp L a b)
theorem ratio_trans {x1 y1 x2 y2 x3 y3 : Int} (h1 : 0 ≤ x1) (h3 : 0 ≤ x3) (p2 : 0 < y2) (q1 : 0 < y1) (q3 : 0 < y3) (a : x1 * y2 ≤ x2 * y1) (b : x2 * y3 ≤ x3 * y2) : x1 * y3 ≤ x3 * y1 := by
 have m1 := Int.mul_le_mul_of_nonneg_right a (Int.le_of_lt q3)
 have m2 := Int.mul_le_mul_of_nonneg_right b (Int.le_of_lt q1)
 refine Int.le_of_mul_le_mul_right (a := y2) ?_ p2
 have e1 : x1 * y2 * y3 = x1 * y3 * y2 := by grind
 have e2 : x2 * y1 * y3 = x2 * y3 * y1 := by grind
 have e3 : x3 * y2 * y1 = x3 * y1 * y2 := by grind
 omega
/-- chains of tests that are there -/
def LOk (us : List T) (L : LN) : Prop := ∀ c ∈ L,∀ x ∈ c,x < us.length
theorem fp_mem {L : LN} {i n x : Nat} (h : x ∈ fp L i n) : ∃ c ∈ L,x ∈ c := by
 unfold fp at h
 have h := List.mem_of_mem_take h
 by_cases hi : i < L.length
 ·refine ⟨L[i],List.getElem_mem hi,?_⟩
  rw [List.getD_eq_getElem?_getD,List.getElem?_eq_getElem hi] at h
  exact h
 ·rw [List.getD_eq_getElem?_getD,List.getElem?_eq_none (by omega)] at h
  cases h
theorem fp_ok {us : List T} (h : us.all tOk = true) {L : LN} (hL : LOk us L) (i n : Nat) : ∀ x ∈ (fp L i n).map (itC us),iOk x := itC_ok h fun x hx => by
 obtain ⟨c,hc,hxc⟩ := fp_mem hx
 exact hL c hc x hxc
theorem fp_pos {us : List T} (h : us.all tOk = true) {L : LN} (hL : LOk us L) {i n : Nat} (h1 : 1 ≤ n) (hn : n ≤ (L.getD i []).length) : 0 < e9 us (fp L i n) := by
 refine gE_pos (fp_ok h hL i n) fun e => ?_
 have : (fp L i n).length = 0 := by have := congrArg List.length e; simpa using this
 unfold fp at this
 rw [List.length_take] at this
 omega
theorem cnd_lst {us : List T} (h : us.all tOk = true) {L : LN} (hL : LOk us L) {seen : Nat → Nat → Prop} (hs : ∀ i n,seen i n → 1 ≤ n ∧ n ≤ (L.getD i []).length) {st : Option (Nat × Nat)} (H : lstOf us L seen st) {i n : Nat} (h1 : 1 ≤ n) (hn : n ≤ (L.getD i []).length) :
  lstOf us L (fun j k => seen j k ∨ (j = i ∧ k = n)) (cnd us L st i n) := by
 cases st with
 | none =>
  show (seen i n ∨ (i = i ∧ n = n)) ∧ _
  refine ⟨.inr ⟨rfl,rfl⟩,fun j k hk => ?_⟩
  rcases hk with hk | ⟨rfl,rfl⟩
  ·exact absurd hk (H j k)
  ·exact Int.le_refl _
 | some p =>
  obtain ⟨a,b⟩ := p
  obtain ⟨H1,H2⟩ := H
  obtain ⟨b1,b2⟩ := hs a b H1
  have ea := fp_pos h hL b1 b2
  have en := fp_pos h hL h1 hn
  simp only [cnd]
  by_cases c : c9 us (fp L i n) * e9 us (fp L a b) < c9 us (fp L a b) * e9 us (fp L i n)
  ·rw [if_pos c]
   refine ⟨.inr ⟨rfl,rfl⟩,fun j k hk => ?_⟩
   rcases hk with hk | ⟨rfl,rfl⟩
   ·obtain ⟨k1,k2⟩ := hs j k hk
    exact ratio_trans (gD_nn (fp_ok h hL i n)) (gD_nn (fp_ok h hL j k)) ea en (fp_pos h hL k1 k2) (Int.le_of_lt c) (H2 j k hk)
   ·exact Int.le_refl _
  ·rw [if_neg c]
   refine ⟨.inl H1,fun j k hk => ?_⟩
   rcases hk with hk | ⟨rfl,rfl⟩
   ·exact H2 j k hk
   ·omega
theorem lst_congr {us : List T} {L : LN} {s s' : Nat → Nat → Prop} {st : Option (Nat × Nat)} (h : ∀ i n,s i n ↔ s' i n) (H : lstOf us L s st) : lstOf us L s' st := by
 cases st with
 | none => exact fun i n q => H i n ((h i n).2 q)
 | some p => exact ⟨(h _ _).1 H.1,fun i n q => H.2 i n ((h i n).2 q)⟩
theorem cndN_lst {us : List T} (h : us.all tOk = true) {L : LN} (hL : LOk us L) {seen : Nat → Nat → Prop} (hs : ∀ i n,seen i n → 1 ≤ n ∧ n ≤ (L.getD i []).length) {st : Option (Nat × Nat)} (H : lstOf us L seen st) (i : Nat) : ∀ N,N ≤ (L.getD i []).length →
  lstOf us L (fun j k => seen j k ∨ (j = i ∧ 1 ≤ k ∧ k ≤ N)) (cndN us L i st N)
 | 0,_ => lst_congr (fun j k => ⟨.inl,fun q => q.elim id fun q => by omega⟩) H
 | N + 1,hN => by
  have ih := cndN_lst h hL hs H i N (by omega)
  refine lst_congr (fun j k => ?_) (cnd_lst h hL (fun j k q => q.elim (hs j k) fun q => by obtain ⟨rfl,q1,q2⟩ := q; exact ⟨q1,by omega⟩) ih (show 1 ≤ N + 1 by omega) hN)
  constructor
  ·rintro ((q | q) | q)
   ·exact .inl q
   ·exact .inr ⟨q.1,q.2.1,by omega⟩
   ·exact .inr ⟨q.1,by omega,by omega⟩
  ·rintro (q | q)
   ·exact .inl (.inl q)
   ·by_cases e : k = N + 1
    ·exact .inr ⟨q.1,e⟩
    ·exact .inl (.inr ⟨q.1,q.2.1,by omega⟩)
theorem cndI_lst {us : List T} (h : us.all tOk = true) {L : LN} (hL : LOk us L) : ∀ m,lstOf us L (fun j k => j < m ∧ 1 ≤ k ∧ k ≤ (L.getD j []).length) (cndI us L m)
 | 0 => fun i n q => by omega
 | m + 1 => by
  have ih := cndI_lst h hL m
  refine lst_congr (fun j k => ?_) (cndN_lst h hL (fun j k q => q.2) ih m (L.getD m []).length (Nat.le_refl _))
  constructor
  ·rintro (q | ⟨rfl,q⟩)
   ·exact ⟨by omega,q.2⟩
   ·exact ⟨by omega,q⟩
  ·rintro ⟨q1,q2⟩
   by_cases e : j = m
   ·subst e; exact .inr ⟨rfl,q2⟩
   ·exact .inl ⟨by omega,q2⟩
/-- the order of first parts -/
def chF (us : List T) : Nat → LN → List Nat
 | 0,_ => []
 | f + 1,L => match cndI us L L.length with
  | none => []
  | some (a,b) => fp L a b ++ chF us f (L.set a ((L.getD a []).drop b))
theorem wk_pre {A B : LN} {W row : List Nat} (h : Wk (A ++ W :: B) row) : ∀ X : List Nat,Wk (A ++ (X ++ W) :: B) (X ++ row)
 | [] => h
 | k :: X => .step _ _ _ _ _ (wk_pre h X)
theorem splitN_at {L : LN} {a : Nat} (ha : a < L.length) (b : Nat) : ∃ A B,A.length = a ∧ L = A ++ ((L.getD a []).take b ++ (L.getD a []).drop b) :: B ∧ L.set a ((L.getD a []).drop b) = A ++ (L.getD a []).drop b :: B := by
 have e : L.getD a [] = L[a] := by rw [List.getD_eq_getElem?_getD,List.getElem?_eq_getElem ha]; rfl
 refine ⟨L.take a,L.drop (a + 1),by rw [List.length_take]; omega,?_,?_⟩
 ·rw [List.take_append_drop,e,List.getElem_cons_drop,List.take_append_drop]
 ·rw [List.set_eq_take_append_cons_drop,if_pos ha]
theorem chF_ok {us : List T} (h : us.all tOk = true) : ∀ (f : Nat) (L : LN),LOk us L → L.flatten.length ≤ f → Wk L (chF us f L) ∧ Gr (L.map (List.map (itC us))) ((chF us f L).map (itC us))
 | f,L,hL,hf => by
  have none_of : (∀ i n,¬ (i < L.length ∧ 1 ≤ n ∧ n ≤ (L.getD i []).length)) → ∀ c ∈ L,c = [] := fun H c hc => by
   obtain ⟨i,hi,rfl⟩ := List.getElem_of_mem hc
   have e : L.getD i [] = L[i] := by rw [List.getD_eq_getElem?_getD,List.getElem?_eq_getElem hi]; rfl
   cases hl : L[i] with
   | nil => rfl
   | cons x r => exact absurd ⟨hi,Nat.le_refl 1,by rw [e,hl]; simp⟩ (H i 1)
  have nil_ok : (∀ c ∈ L,c = []) → Wk L [] ∧ Gr (L.map (List.map (itC us))) (([] : List Nat).map (itC us)) := fun H => ⟨.nil L H,.nil _ fun c hc => by
   obtain ⟨d,hd,rfl⟩ := List.mem_map.1 hc
   rw [H d hd]; rfl⟩
  cases f with
  | zero =>
   refine nil_ok fun c hc => ?_
   have e : L.flatten = [] := List.length_eq_zero_iff.1 (by omega)
   exact List.flatten_eq_nil_iff.1 e c hc
  | succ f =>
   have I := cndI_lst h hL L.length
   simp only [chF]
   cases hc : cndI us L L.length with
   | none =>
    rw [hc] at I
    exact nil_ok (none_of I)
   | some p =>
    obtain ⟨a,b⟩ := p
    rw [hc] at I
    obtain ⟨⟨a1,b1,b2⟩,I2⟩ := I
    obtain ⟨A,B,hA,e1,e2⟩ := splitN_at a1 b
    simp only
    have lt : (L.set a ((L.getD a []).drop b)).flatten.length ≤ f := by
     rw [e2]
     have := hf
     rw [e1] at this
     simp only [List.flatten_append,List.flatten_cons,List.length_append,List.length_take,List.length_drop] at this ⊢
     omega
    have hL2 : LOk us (L.set a ((L.getD a []).drop b)) := by
     rw [e2]
     intro c hc x hx
     rcases List.mem_append.1 hc with q | q
     ·refine hL c ?_ x hx
      rw [e1]
      exact List.mem_append_left _ q
     ·rcases List.mem_cons.1 q with q | q
      ·have hm : L.getD a [] ∈ L := by rw [List.getD_eq_getElem?_getD,List.getElem?_eq_getElem a1]; exact List.getElem_mem a1
       rw [q] at hx
       exact hL _ hm x (List.mem_of_mem_drop hx)
      ·refine hL c ?_ x hx
       rw [e1]
       exact List.mem_append_right _ (List.mem_cons_of_mem _ q)
    obtain ⟨w,g⟩ := chF_ok h f _ hL2 lt
    constructor
    ·have w' : Wk (A ++ (L.getD a []).drop b :: B) (chF us f (L.set a ((L.getD a []).drop b))) := by rw [← e2]; exact w
     have := wk_pre w' ((L.getD a []).take b)
     rw [← e1] at this
     exact this
    ·have g' : Gr (A.map (List.map (itC us)) ++ ((L.getD a []).drop b).map (itC us) :: B.map (List.map (itC us))) ((chF us f (L.set a ((L.getD a []).drop b))).map (itC us)) := by
      rw [show A.map (List.map (itC us)) ++ ((L.getD a []).drop b).map (itC us) :: B.map (List.map (itC us)) = (L.set a ((L.getD a []).drop b)).map (List.map (itC us)) by rw [e2]; simp]
      exact g
     have e1' : L.map (List.map (itC us)) = A.map (List.map (itC us)) ++ (((L.getD a []).take b).map (itC us) ++ ((L.getD a []).drop b).map (itC us)) :: B.map (List.map (itC us)) := by
      have := congrArg (List.map (List.map (itC us))) e1
      rw [this]
      simp
     rw [List.map_append,e1']
     refine .step _ _ _ _ _ (fun q => ?_) (fun c hc P Q e => ?_) g'
     ·have := congrArg List.length q
      simp at this
      rcases this with q | q
      ·omega
      ·rw [List.getD_eq_getElem?_getD] at b2; rw [q] at b2; simp at b2; omega
     ·rw [← e1'] at hc
      obtain ⟨d,hd,rfl⟩ := List.mem_map.1 hc
      obtain ⟨i,hi,rfl⟩ := List.getElem_of_mem hd
      have ed : L.getD i [] = L[i] := by rw [List.getD_eq_getElem?_getD,List.getElem?_eq_getElem hi]; rfl
      by_cases z : P = []
      ·subst z
       simp [gE,gM,gS,gD]
      ·have lP : P.length ≤ L[i].length := by have := congrArg List.length e; simp at this; omega
       have eP : P = (fp L i P.length).map (itC us) := by
        unfold fp
        rw [ed,List.map_take,e]
        simp
       have := I2 i P.length ⟨hi,by have := List.length_pos_iff.2 z; omega,by rw [ed]; exact lP⟩
       unfold c9 e9 at this
       rw [← eP] at this
       exact this
end
section
def gLA (us : List T) (L : LN) (f : Nat) (v : LN → Int) (i : Nat) : Option Int := match L.getD i [] with
 | [] => none
 | k :: c => some (cA us k * 6 ^ (f + 1) + pA us k * v (L.set i c))
def m0 (g : Nat → Option Int) (i : Nat) : Int := if mnO g i < 0 then 0 else mnO g i
def lA (us : List T) : Nat → LN → Int
 | 0,_ => 0
 | f + 1,L => m0 (gLA us L f (lA us f)) L.length
end
section
attribute [-simp] DV.cells
attribute [local simp] sliceD cells_st cells_sl cells_i cells_y cells_b cells_s cells_w
attribute [local simp] lend_eR al_eR
theorem gok_of {m : Nat} (hm : 1 ≤ m ∧ m ≤ 5) {L : List (List Int)} (h : gokB m L = true) : ∃ N : List (List Nat),L = N.map ni ∧ Gok m N := by
 unfold gokB at h
 rw [Bool.and_eq_true] at h
 obtain ⟨h1,h2⟩ := h
 obtain ⟨o1,o2,o3⟩ := orOk_iff.1 h2
 obtain ⟨o4,o5⟩ := orS_nodup.1 o3
 have e : L = (L.map (List.map Int.toNat)).map ni := by
  rw [List.map_map]
  conv => lhs; rw [← List.map_id L]
  apply List.map_congr_left
  intro r hr
  show r = ni (r.map Int.toNat)
  unfold ni
  rw [List.map_map]
  conv => lhs; rw [← List.map_id r]
  apply List.map_congr_left
  intro a ha
  have := (o4 a (List.mem_flatten.2 ⟨r,hr,ha⟩)).1
  show a = ((a.toNat : Nat) : Int)
  omega
 have ef : (L.map (List.map Int.toNat)).flatten = L.flatten.map Int.toNat := by rw [List.map_flatten]
 have lt : ∀ g ∈ L.map (List.map Int.toNat),∀ k ∈ g,k < m := by
  intro g hg k hk
  obtain ⟨r,hr,rfl⟩ := List.mem_map.1 hg
  obtain ⟨a,ha,rfl⟩ := List.mem_map.1 hk
  have := (o4 a (List.mem_flatten.2 ⟨r,hr,ha⟩)).1
  omega
 have nd : (L.map (List.map Int.toNat)).flatten.Nodup := by
  rw [ef,List.nodup_iff_pairwise_ne,List.pairwise_map]
  refine List.Pairwise.imp_of_mem (fun {a b} ha hb hab h => hab ?_) (List.nodup_iff_pairwise_ne.1 o5)
  have := (o4 a ha).1
  have := (o4 b hb).1
  omega
 refine ⟨_,e,lt,nd,fun k hk => ?_,?_⟩
 ·rw [ef,List.mem_map]
  have p := (or_perm h2).mem_iff.2 (mem_rng.2 (show 0 ≤ (k : Int) ∧ (k : Int) < ((m : Int).toNat : Nat) by omega))
  exact ⟨(k : Int),p,by simp⟩
 ·intro g hg
  obtain ⟨r,hr,rfl⟩ := List.mem_map.1 hg
  have := List.all_eq_true.1 h1 r hr
  simpa using this
end
section
attribute [-simp] DV.cells
attribute [local simp] sliceD cells_st cells_sl cells_i cells_y cells_b cells_s cells_w
attribute [local simp] lend_eR al_eR
theorem prR_gS (us : List T) : ∀ (l : List Nat) (on : Int),prR us 0 on (ni l) = on * gS (l.map (itC us))
 | [],on => by simp [ni,prR,gS]
 | k :: r,on => by
  have e : eA us 0 k = 6 - pA us k := by unfold eA pA; simp
  show prR us 0 (on * (6 - eA us 0 ((k : Nat) : Int).toNat)) (ni r) = _
  rw [prR_gS us r,Int.toNat_natCast,e]
  simp only [List.map_cons,gS]
  have e2 : (itC us k).2.2 - (itC us k).2.1 = 6 - (6 - pA us k) := rfl
  rw [e2,Int.mul_assoc]
def stRc (us : List T) (g : List Nat) (sum on : Int) (k : Nat) : LS := ⟨[(0,.sl 0 (us.map e2)),(1,.sl 0 ((ni g).map .i)),(6,.i sum),(7,.i on),(8,.i k)],[]⟩
set_option maxHeartbeats 4000000 in
theorem ratio_loop9 {us : List T} (h : us.all tOk = true) (g : List Nat) (h5 : g.length ≤ 5) (hg : ∀ k ∈ g,k < us.length) : ∀ (rest : List Nat) (k : Nat) (on sum : Int),0 ≤ on → on ≤ 6 ^ k → 0 ≤ sum → sum ≤ 70000 * k → k + rest.length = g.length → g.drop k = rest →
  ex lf F_spec_l9Ratio_W0 (stRc us g sum on k) = some (.exit 0,stRc us g (sum + rA us 0 on (ni rest)) (prR us 0 on (ni rest)) g.length) := by
 intro rest
 induction rest with
 | nil =>
  intro k on sum n0 n1 s0 s1 hn hd
  have e : k = g.length := by simpa using hn
  subst e
  rw [w_spec_l9Ratio_0]
  simp [stRc,F_spec_l9Ratio_L0,ni,rA,prR]
 | cons a rest ih0 =>
  intro k on sum n0 n1 s0 s1 hn hd
  obtain ⟨k1,k2,k3⟩ := drop_cons hd
  have ha : a < us.length := hg a (List.mem_of_getElem? k2)
  have k1' : (k : Int) < g.length := by omega
  have k2' : (ni g)[k]? = some (a : Int) := by unfold ni; rw [List.getElem?_map,k2]; rfl
  have at1 := atI_int k2'
  have at2 := atT ha
  have cb := cA_bd h ha
  have pb := pA_bd h ha
  have hl : rest.length + 1 = g.length - k := by simp at hn; omega
  have pp := p6le (i := k) (j := rest.length + 1) (by omega) n0 n1
  have pk := p6 (n := k) (by omega)
  have C := c_spec_l1Power (n := rest.length + 1) (by omega)
  have w1 : wr ((g.length : Int) - k) = ((rest.length + 1 : Nat) : Int) := by rw [wr_id (by omega) (by omega)]; omega
  have m1 : 0 ≤ cA us a * on ∧ cA us a * on ≤ 9 * 7776 := ⟨Int.mul_nonneg (by omega) n0,Int.mul_le_mul (by omega) (by omega) n0 (by omega)⟩
  have w2 : wr (cA us a * on) = cA us a * on := wr_id (by omega) (by omega)
  have m2 : 0 ≤ cA us a * on * 6 ^ (rest.length + 1) ∧ cA us a * on * 6 ^ (rest.length + 1) ≤ 9 * 7776 := by
   rw [Int.mul_assoc]
   exact ⟨Int.mul_nonneg (by omega) pp.1,Int.mul_le_mul (by omega) pp.2 pp.1 (by omega)⟩
  have w3 : wr (cA us a * on * 6 ^ (rest.length + 1)) = cA us a * on * 6 ^ (rest.length + 1) := wr_id (by omega) (by omega)
  have w4 : wr (sum + cA us a * on * 6 ^ (rest.length + 1)) = sum + cA us a * on * 6 ^ (rest.length + 1) := wr_id (by omega) (by omega)
  have m3 : 0 ≤ on * pA us a ∧ on * pA us a ≤ 6 ^ (k + 1) := by
   refine ⟨Int.mul_nonneg n0 (by omega),?_⟩
   rw [Int.pow_succ]
   exact Int.mul_le_mul n1 (by omega) (by omega) (by omega)
  have pk1 := p6 (n := k + 1) (by omega)
  have w6 : wr (on * pA us a) = on * pA us a := wr_id (by omega) (by omega)
  have w7 := wr_succ (k := k) (by omega)
  have I := ih0 (k + 1) (on * pA us a) (sum + cA us a * on * 6 ^ (rest.length + 1)) m3.1 m3.2 (by omega) (by omega) (by simp at hn; omega) k3
  have ea : 6 - eA us 0 a = pA us a := by unfold eA pA; simp; omega
  have e : sum + rA us 0 on (ni (a :: rest)) = sum + cA us a * on * 6 ^ (rest.length + 1) + rA us 0 (on * pA us a) (ni rest) := by
   simp only [ni,List.map_cons,rA,List.length_map,Int.toNat_natCast,ea]; omega
  have e' : prR us 0 on (ni (a :: rest)) = prR us 0 (on * pA us a) (ni rest) := by
   simp only [ni,List.map_cons,prR,Int.toNat_natCast,ea]
  rw [w_spec_l9Ratio_0,e,e']
  unfold stRc at *
  have nl := ni_len g
  generalize (6 : Int) ^ (rest.length + 1) = P at *
  generalize rA us 0 _ (ni rest) = Z at *
  generalize prR us 0 _ (ni rest) = Y at *
  generalize cA us a = c at *
  generalize pA us a = q at *
  simp [F_spec_l9Ratio_L0,k1,k1',nl,at1,at2,ha,C,w1,w2,w3,w4,w6,w7,I,-Int.natCast_add]
theorem e9_eq (us : List T) (g : List Nat) : e9 us g = 6 ^ g.length - gS (g.map (itC us)) := by
 unfold e9 gE
 rw [itC_M]
theorem c_spec_l9Ratio {us : List T} (h : tsOk us = true) {g : List Nat} (h5 : g.length ≤ 5) (hg : ∀ k ∈ g,k < us.length) :
  call lf n_spec_l9Ratio [.sl 0 (us.map e2),.sl 0 ((ni g).map .i)] = some (.tup [.i (c9 us g),.i (e9 us g)],[]) := by
 rw [call_k lf n_spec_l9Ratio _ (F := F_spec_l9Ratio) rfl rfl]
 have h' := tsOk_iff.1 h
 have I := ratio_loop9 h'.2 g h5 hg g 0 1 0 (by omega) (by omega) (by omega) (by omega) (by omega) rfl
 have b := gS_bd (itC_ok h'.2 hg)
 have pk := p6 (n := g.length) (by omega)
 rw [itC_M] at b
 rw [rA_row,prR_gS,Int.one_mul,Int.zero_add] at I
 have C := c_spec_l1Power (n := g.length) (by omega)
 rw [e9_eq]
 have nl := ni_len g
 unfold c9
 unfold stRc at I
 simp only [Int.natCast_zero] at I
 generalize gS (g.map (itC us)) = S at *
 generalize gD (g.map (itC us)) = D at *
 generalize (6 : Int) ^ g.length = P at *
 have w : wr (P - S) = P - S := wr_id (by omega) (by omega)
 simp [F_spec_l9Ratio,I,C,nl,w]
end
section
attribute [-simp] DV.cells
attribute [local simp] sliceD cells_st cells_sl cells_i cells_y cells_b cells_s cells_w
attribute [local simp] lend_eR al_eR
/-- how many of a chain are asked -/
def inP (p c : List Nat) : Nat := (p.map fun o => c.count o).sum
def left (C : LN) (p : List Nat) : LN := C.map fun c => c.drop (inP p c)
theorem flat_ge9 : ∀ {C : LN},(∀ c ∈ C,c ≠ []) → C.length ≤ C.flatten.length
 | [],_ => by simp
 | c :: C,h => by
  have := flat_ge9 (C := C) fun d hd => h d (List.mem_cons_of_mem _ hd)
  have c0 : 0 < c.length := List.length_pos_iff.2 (h c List.mem_cons_self)
  simp only [List.length_cons,List.flatten_cons,List.length_append]
  omega
theorem at_C {C : LN} {i : Nat} (hi : i < C.length) : atI ((C.map ni).map eR) (i : Int) = some (.sl 0 ((ni C[i]).map .i)) := at_eR (by rw [List.getElem?_map,List.getElem?_eq_getElem hi]; rfl)
end
section
attribute [-simp] DV.cells
attribute [local simp] sliceD cells_st cells_sl cells_i cells_y cells_b cells_s cells_w
attribute [local simp] lend_eR al_eR
def natL (L : List (List Int)) : LN := L.map fun r => r.map Int.toNat
theorem natL_ni (N : LN) : natL (N.map ni) = N := by
 unfold natL
 rw [List.map_map]
 conv => rhs; rw [← List.map_id N]
 apply List.map_congr_left
 intro r _
 exact ni_toNat r
def cbO (us : List T) (L : List (List Int)) : Bool := tsOk us && gokB us.length L
def cbV (us : List T) (L : List (List Int)) : Int := if cbO us L then gD ((chF us us.length (natL L)).map (itC us)) else -1
end
section
attribute [-simp] DV.cells
attribute [local simp] sliceD cells_st cells_sl cells_i cells_y cells_b cells_s cells_w
attribute [local simp] lend_eR al_eR
theorem c9_bd {us : List T} (h : us.all tOk = true) : ∀ {l : List Nat},(∀ k ∈ l,k < us.length) → 0 ≤ c9 us l ∧ c9 us l ≤ 9 * l.length * 6 ^ l.length
 | [],_ => by simp [c9,gD]
 | k :: r,hr => by
  obtain ⟨a1,a2⟩ := c9_bd h (l := r) (fun x hx => hr x (by simp [hx]))
  have cb := cA_bd h (hr k (by simp))
  have pb := pA_bd h (hr k (by simp))
  have e : c9 us (k :: r) = 6 * cA us k * 6 ^ r.length + pA us k * c9 us r := by
   unfold c9
   simp only [List.map_cons,gD,itC_M]
   have : (itC us k).2.2 - (itC us k).2.1 = pA us k := by simp [itC]; omega
   rw [this]; rfl
  have p : (0 : Int) < 6 ^ r.length := Int.pow_pos (by omega)
  rw [e]
  refine ⟨Int.add_nonneg (Int.mul_nonneg (by omega) (by omega)) (Int.mul_nonneg (by omega) a1),?_⟩
  have x1 : 6 * cA us k * 6 ^ r.length ≤ 54 * 6 ^ r.length := Int.mul_le_mul_of_nonneg_right (by omega) (by omega)
  have x2 : pA us k * c9 us r ≤ 6 * (9 * r.length * 6 ^ r.length) := Int.mul_le_mul (by omega) a2 a1 (by omega)
  have e2' : 9 * ((k :: r).length : Int) * 6 ^ (k :: r).length = 54 * 6 ^ r.length + 6 * (9 * r.length * 6 ^ r.length) := by
   rw [List.length_cons,Int.pow_succ]
   push_cast
   grind
  omega
theorem c9_le {us : List T} (h : us.all tOk = true) {l : List Nat} (h5 : l.length ≤ 5) (hl : ∀ k ∈ l,k < us.length) : (0 ≤ c9 us l ∧ c9 us l ≤ 349920) ∧ 0 ≤ e9 us l ∧ e9 us l ≤ 7776 := by
 obtain ⟨a,b⟩ := c9_bd h hl
 have p := p6 (n := l.length) h5
 refine ⟨⟨a,Int.le_trans b ?_⟩,?_⟩
 ·have : 9 * (l.length : Int) * 6 ^ l.length ≤ 45 * 7776 := Int.mul_le_mul (by omega) p.2 (by omega) (by omega)
  omega
 ·have g := gS_bd (itC_ok h hl)
  rw [itC_M] at g
  rw [e9_eq]
  omega
/-- what is left of chains of which so many are done -/
structure Lft (C L : LN) (d : List Nat) : Prop where
 len : L.length = C.length
 dl : d.length = C.length
 eq : ∀ i (hi : i < C.length),L.getD i [] = C[i].drop (d.getD i 0)
 le : ∀ i (hi : i < C.length),d.getD i 0 ≤ C[i].length
def s7 : Option (Nat × Nat) → Int
 | none => -1
 | some (a,_) => a
def s8 : Option (Nat × Nat) → Int
 | none => 0
 | some (_,b) => b
def s9 (us : List T) (L : LN) : Option (Nat × Nat) → Int
 | none => 0
 | some (a,b) => c9 us (fp L a b)
def s10 (us : List T) (L : LN) : Option (Nat × Nat) → Int
 | none => 1
 | some (a,b) => e9 us (fp L a b)
def stN2 (us : List T) (C L : LN) (out d : List Nat) (st : Option (Nat × Nat)) (k n : Nat) : LS :=
 ⟨[(0,.sl 0 (us.map e2)),(1,.sl 0 ((C.map ni).map eR)),(5,.own 7688 out.length 0 out.length),(6,.own 14856 d.length 0 d.length),(7,.i (s7 st)),(8,.i (s8 st)),(9,.i (s9 us L st)),(10,.i (s10 us L st)),(11,.i k),(12,.i n)],[(7688,(ni out).map .i),(14856,(ni d).map .i)]⟩
def stN1 (us : List T) (C L : LN) (out d : List Nat) (st : Option (Nat × Nat)) (k : Nat) : LS :=
 ⟨[(0,.sl 0 (us.map e2)),(1,.sl 0 ((C.map ni).map eR)),(5,.own 7688 out.length 0 out.length),(6,.own 14856 d.length 0 d.length),(7,.i (s7 st)),(8,.i (s8 st)),(9,.i (s9 us L st)),(10,.i (s10 us L st)),(11,.i k)],[(7688,(ni out).map .i),(14856,(ni d).map .i)]⟩
def stN0 (us : List T) (C : LN) (out d : List Nat) : LS :=
 ⟨[(0,.sl 0 (us.map e2)),(1,.sl 0 ((C.map ni).map eR)),(5,.own 7688 out.length 0 out.length),(6,.own 14856 d.length 0 d.length)],[(7688,(ni out).map .i),(14856,(ni d).map .i)]⟩
theorem fp_len (L : LN) (a b : Nat) : (fp L a b).length = min b (L.getD a []).length := by simp [fp]
theorem fp5 {L : LN} (h5 : ∀ c ∈ L,c.length ≤ 5) (a b : Nat) : (fp L a b).length ≤ 5 := by
 rw [fp_len]
 by_cases q : a < L.length
 ·have := h5 _ (List.getElem_mem q)
  rw [List.getD_eq_getElem?_getD,List.getElem?_eq_getElem q,Option.getD_some]
  omega
 ·rw [List.getD_eq_getElem?_getD,List.getElem?_eq_none (by omega)]
  simp
set_option maxHeartbeats 4000000 in
theorem co_inner {us : List T} (h : tsOk us = true) {C L : LN} {out d : List Nat} (hL : LOk us L) (F : Lft C L d) {k : Nat} (hk : k < C.length) (h5 : ∀ c ∈ L,c.length ≤ 5) (hC : C[k].length ≤ 5) (st : Option (Nat × Nat)) :
  ex lf F_spec_ChainOrder_W2 (stN2 us C L out d st k 1) = some (.exit 4,stN2 us C L out d (cndN us L k st (L.getD k []).length) k ((L.getD k []).length + 1)) := by
 have h' := tsOk_iff.1 h
 have A := at_C hk
 have hk' : (k : Int) < (C.map ni).length := by simp; omega
 have nl := ni_len C[k]
 have nd := ni_len d
 have no := ni_len out
 have hd : k < d.length := by rw [F.dl]; exact hk
 have hd' : (k : Int) < d.length := by omega
 have dk : d[k]? = some (d.getD k 0) := by rw [List.getD_eq_getElem?_getD,List.getElem?_eq_getElem hd]; rfl
 obtain ⟨ao,an⟩ := at_ni dk
 have Fe := F.eq k hk
 have Fl := F.le k hk
 have ll : (L.getD k []).length = C[k].length - d.getD k 0 := by rw [Fe]; simp
 refine loop_count (lf := lf) (L := F_spec_ChainOrder_L2) (L.getD k []).length (fun i => stN2 us C L out d (cndN us L k st i) k (i + 1)) (fun i hi => ?_) ?_ (by simp)
 ·show ex lf F_spec_ChainOrder_L2 (stN2 us C L out d (cndN us L k st i) k (i + 1)) = some (.normal,stN2 us C L out d (cnd us L (cndN us L k st i) k (i + 1)) k (i + 2))
  generalize cndN us L k st i = s at *
  have gm : ∀ x ∈ fp L k (i + 1),x < us.length := fun x hx => by
   obtain ⟨c,hc,hxc⟩ := fp_mem hx
   exact hL c hc x hxc
  have g5 : (fp L k (i + 1)).length ≤ 5 := by rw [fp_len]; omega
  have R := c_spec_l9Ratio h g5 gm
  have B := c9_le h'.2 g5 gm
  have tk : List.drop (d.getD k 0) (List.take (d.getD k 0 + (i + 1)) ((ni C[k]).map DV.i)) = (ni (fp L k (i + 1))).map .i := by
   unfold fp ni
   rw [Fe]
   simp [List.drop_take]
  have w1 : wr ((d.getD k 0 : Int) + ((i + 1 : Nat) : Int)) = ((d.getD k 0 + (i + 1) : Nat) : Int) := by rw [wr_id (by omega) (by omega)]; omega
  have w2 := wr_succ (k := i + 1) (by omega)
  have q1 : d.getD k 0 + (i + 1) ≤ C[k].length := by omega
  have q2 : d.getD k 0 ≤ d.getD k 0 + (i + 1) := by omega
  generalize d.getD k 0 + (i + 1) = e at *
  generalize d.getD k 0 = dn at *
  cases s with
  | none =>
   have e1 : cnd us L none k (i + 1) = some (k,i + 1) := rfl
   rw [e1]
   unfold stN2
   simp only [s7,s8,s9,s10]
   generalize fp L k (i + 1) = g at *
   generalize C.map ni = L' at *
   generalize hi1 : i + 1 = i1 at *
   have hi2 : i + 2 = i1 + 1 := by omega
   rw [hi2]
   simp [F_spec_ChainOrder_L2,A,hk',nl,nd,no,hd,hd',ao,an,w1,w2,q1,q2,tk,R,-Int.natCast_add]
  | some p =>
   obtain ⟨a,b⟩ := p
   have H := fp5 h5 a b
   have am : ∀ x ∈ fp L a b,x < us.length := fun x hx => by
    obtain ⟨c,hc,hxc⟩ := fp_mem hx
    exact hL c hc x hxc
   have B2 := c9_le h'.2 H am
   have e1 : cnd us L (some (a,b)) k (i + 1) = if c9 us (fp L k (i + 1)) * e9 us (fp L a b) < c9 us (fp L a b) * e9 us (fp L k (i + 1)) then some (k,i + 1) else some (a,b) := rfl
   rw [e1]
   have m1 : 0 ≤ c9 us (fp L k (i + 1)) * e9 us (fp L a b) ∧ c9 us (fp L k (i + 1)) * e9 us (fp L a b) ≤ 349920 * 7776 := ⟨Int.mul_nonneg B.1.1 B2.2.1,Int.mul_le_mul B.1.2 B2.2.2 B2.2.1 (by omega)⟩
   have m2 : 0 ≤ c9 us (fp L a b) * e9 us (fp L k (i + 1)) ∧ c9 us (fp L a b) * e9 us (fp L k (i + 1)) ≤ 349920 * 7776 := ⟨Int.mul_nonneg B2.1.1 B.2.1,Int.mul_le_mul B2.1.2 B.2.2 B.2.1 (by omega)⟩
   have w3 : wr (c9 us (fp L k (i + 1)) * e9 us (fp L a b)) = c9 us (fp L k (i + 1)) * e9 us (fp L a b) := wr_id (by omega) (by omega)
   have w4 : wr (c9 us (fp L a b) * e9 us (fp L k (i + 1))) = c9 us (fp L a b) * e9 us (fp L k (i + 1)) := wr_id (by omega) (by omega)
   have na : ¬ (a : Int) < 0 := by omega
   by_cases q : c9 us (fp L k (i + 1)) * e9 us (fp L a b) < c9 us (fp L a b) * e9 us (fp L k (i + 1))
   ·rw [if_pos q]
    unfold stN2
    simp only [s7,s8,s9,s10]
    generalize fp L k (i + 1) = g at *
    generalize fp L a b = g2 at *
    generalize C.map ni = L' at *
    generalize hi1 : i + 1 = i1 at *
    have hi2 : i + 2 = i1 + 1 := by omega
    rw [hi2]
    simp [F_spec_ChainOrder_L2,A,hk',nl,nd,no,hd,hd',ao,an,w1,w2,w3,w4,q,na,q1,q2,tk,R,-Int.natCast_add]
   ·rw [if_neg q]
    unfold stN2
    simp only [s7,s8,s9,s10]
    generalize fp L k (i + 1) = g at *
    generalize fp L a b = g2 at *
    generalize C.map ni = L' at *
    generalize hi1 : i + 1 = i1 at *
    have hi2 : i + 2 = i1 + 1 := by omega
    rw [hi2]
    simp [F_spec_ChainOrder_L2,A,hk',nl,nd,no,hd,hd',ao,an,w1,w2,w3,w4,q,na,q1,q2,tk,R,-Int.natCast_add]
 ·show ex lf F_spec_ChainOrder_L2 (stN2 us C L out d (cndN us L k st (L.getD k []).length) k ((L.getD k []).length + 1)) = _
  have w1 : wr ((d.getD k 0 : Int) + (((L.getD k []).length + 1 : Nat) : Int)) = ((d.getD k 0 + ((L.getD k []).length + 1) : Nat) : Int) := by rw [wr_id (by omega) (by omega)]; omega
  have q1 : ¬ (d.getD k 0 + ((L.getD k []).length + 1) ≤ C[k].length) := by omega
  generalize cndN us L k st (L.getD k []).length = s at *
  generalize (L.getD k []).length + 1 = n1 at *
  generalize d.getD k 0 + n1 = e at *
  generalize d.getD k 0 = dn at *
  unfold stN2
  generalize C.map ni = L' at *
  simp [F_spec_ChainOrder_L2,A,hk',nl,nd,no,hd,hd',ao,an,w1,q1,-Int.natCast_add]
set_option maxHeartbeats 1000000 in
theorem co_outer {us : List T} (h : tsOk us = true) {C L : LN} {out d : List Nat} (hL : LOk us L) (F : Lft C L d) (h5 : ∀ c ∈ L,c.length ≤ 5) (hC : ∀ c ∈ C,c.length ≤ 5) (cn : C.length ≤ 5) :
  ex lf F_spec_ChainOrder_W1 (stN1 us C L out d none 0) = some (.exit 2,stN1 us C L out d (cndI us L C.length) C.length) := by
 have ll : (C.map ni).length = C.length := by simp
 refine loop_count (lf := lf) (L := F_spec_ChainOrder_L1) C.length (fun k => stN1 us C L out d (cndI us L k) k) (fun k hk => ?_) ?_ (by simp)
 ·have I := co_inner (out := out) h hL F hk h5 (hC _ (List.getElem_mem hk)) (cndI us L k)
  have e : cndN us L k (cndI us L k) (L.getD k []).length = cndI us L (k + 1) := rfl
  rw [e] at I
  show ex lf F_spec_ChainOrder_L1 (stN1 us C L out d (cndI us L k) k) = some (.normal,stN1 us C L out d (cndI us L (k + 1)) (k + 1))
  have hk' : (k : Int) < C.length := by omega
  have w1 := wr_succ (k := k) (by omega)
  generalize cndI us L (k + 1) = s2 at *
  generalize cndI us L k = s1 at *
  generalize (L.getD k []).length + 1 = nn at *
  unfold stN1
  unfold stN2 at I
  have e1 : ((1 : Nat) : Int) = 1 := rfl
  rw [e1] at I
  generalize C.map ni = L' at *
  simp [F_spec_ChainOrder_L1,ll,hk,hk',w1,I,-Int.natCast_add]
 ·show ex lf F_spec_ChainOrder_L1 (stN1 us C L out d (cndI us L C.length) C.length) = _
  generalize cndI us L C.length = s1 at *
  unfold stN1
  generalize C.map ni = L' at *
  simp [F_spec_ChainOrder_L1,ll]
theorem lft_set {C L : LN} {d : List Nat} (F : Lft C L d) {a b : Nat} (ha : a < C.length) (hb : b ≤ (L.getD a []).length) : Lft C (L.set a ((L.getD a []).drop b)) (d.set a (d.getD a 0 + b)) := by
 have Fa := F.eq a ha
 have Fl := F.le a ha
 have la : (L.getD a []).length = C[a].length - d.getD a 0 := by rw [Fa]; simp
 refine ⟨by rw [List.length_set]; exact F.len,by rw [List.length_set]; exact F.dl,fun i hi => ?_,fun i hi => ?_⟩
 ·by_cases e : i = a
  ·subst e
   rw [List.getD_eq_getElem?_getD,List.getElem?_set_self (by rw [F.len]; exact hi),Option.getD_some]
   rw [List.getD_eq_getElem?_getD (l := d.set i _),List.getElem?_set_self (by rw [F.dl]; exact hi),Option.getD_some,Fa,List.drop_drop]
  ·have := F.eq i hi
   rw [List.getD_eq_getElem?_getD] at this
   rw [List.getD_eq_getElem?_getD,List.getElem?_set_ne (fun q => e q.symm),this]
   rw [List.getD_eq_getElem?_getD (l := d.set a _),List.getElem?_set_ne (fun q => e q.symm),← List.getD_eq_getElem?_getD]
 ·by_cases e : i = a
  ·subst e
   rw [List.getD_eq_getElem?_getD,List.getElem?_set_self (by rw [F.dl]; exact hi),Option.getD_some]
   omega
  ·have := F.le i hi
   rw [List.getD_eq_getElem?_getD,List.getElem?_set_ne (fun q => e q.symm),← List.getD_eq_getElem?_getD]
   exact this
theorem ni_set (d : List Nat) (a e : Nat) : ((ni d).map DV.i).set a (.i (e : Int)) = (ni (d.set a e)).map .i := by simp [ni,List.map_set]
/-- one turn: the first part found goes behind the others -/
def CoStep (us : List T) (C : LN) : Prop := ∀ (L : LN) (d out : List Nat) (a b : Nat),LOk us L → Lft C L d → (∀ c ∈ L,c.length ≤ 5) → out.length + L.flatten.length = us.length → cndI us L L.length = some (a,b) → a < L.length → 1 ≤ b → b ≤ (L.getD a []).length → out.length < us.length →
  ex lf F_spec_ChainOrder_L0 (stN0 us C out d) = some (.normal,stN0 us C (out ++ fp L a b) (d.set a (d.getD a 0 + b)))
set_option maxHeartbeats 4000000 in
theorem co_main {us : List T} (h : tsOk us = true) {C : LN} (hC : ∀ c ∈ C,c.length ≤ 5) (cn : C.length ≤ 5) (step : CoStep us C) : ∀ (f : Nat) (L : LN) (d out : List Nat),LOk us L → Lft C L d → (∀ c ∈ L,c.length ≤ 5) → L.flatten.length ≤ f → out.length + L.flatten.length = us.length →
  ∃ d' : List Nat,ex lf F_spec_ChainOrder_W0 (stN0 us C out d) = some (.exit 0,stN0 us C (out ++ chF us f L) d') := by
 have h' := tsOk_iff.1 h
 have m5 : us.length ≤ 5 := by omega
 have ul : (us.map e2).length = us.length := by simp
 have done : ∀ (L : LN) (d out : List Nat),L.flatten.length = 0 → out.length + L.flatten.length = us.length → ex lf F_spec_ChainOrder_W0 (stN0 us C out d) = some (.exit 0,stN0 us C out d) := fun L d out z hl => by
  have e : out.length = us.length := by omega
  rw [w_spec_ChainOrder_0]
  unfold stN0
  generalize C.map ni = L' at *
  simp [F_spec_ChainOrder_L0,e]
 intro f
 induction f with
 | zero =>
  intro L d out hL F h5 hf hl
  refine ⟨d,?_⟩
  show _ = some (Ex.exit 0,stN0 us C (out ++ []) d)
  rw [List.append_nil]
  exact done L d out (by omega) hl
 | succ f ih =>
  intro L d out hL F h5 hf hl
  have I := cndI_lst h'.2 hL L.length
  simp only [chF]
  cases hc : cndI us L L.length with
  | none =>
   rw [hc] at I
   have z : L.flatten = [] := List.flatten_eq_nil_iff.2 fun c hcm => by
    obtain ⟨i,hi,rfl⟩ := List.getElem_of_mem hcm
    have e : L.getD i [] = L[i] := by rw [List.getD_eq_getElem?_getD,List.getElem?_eq_getElem hi]; rfl
    cases q : L[i] with
    | nil => rfl
    | cons x r => exact absurd ⟨hi,Nat.le_refl 1,by rw [e,q]; simp⟩ (I i 1)
   refine ⟨d,?_⟩
   show _ = some (Ex.exit 0,stN0 us C (out ++ []) d)
   rw [List.append_nil]
   exact done L d out (by rw [z]; rfl) hl
  | some p =>
   obtain ⟨a,b⟩ := p
   rw [hc] at I
   obtain ⟨⟨a1,b1,b2⟩,I2⟩ := I
   obtain ⟨A,B,hA,e1,e2⟩ := splitN_at a1 b
   have aC : a < C.length := by rw [← F.len]; exact a1
   have fl : L.flatten.length = b + (L.set a ((L.getD a []).drop b)).flatten.length := by
    rw [e2]
    have := congrArg (fun x => x.flatten.length) e1
    simp only [List.flatten_append,List.flatten_cons,List.length_append,List.length_take,List.length_drop] at this ⊢
    omega
   have gm : L.getD a [] ∈ L := by rw [List.getD_eq_getElem?_getD,List.getElem?_eq_getElem a1]; exact List.getElem_mem a1
   have hL2 : LOk us (L.set a ((L.getD a []).drop b)) := fun c hc x hx => by
    rcases List.mem_or_eq_of_mem_set hc with q | q
    ·exact hL c q x hx
    ·rw [q] at hx; exact hL _ gm x (List.mem_of_mem_drop hx)
   have h52 : ∀ c ∈ L.set a ((L.getD a []).drop b),c.length ≤ 5 := fun c hc => by
    rcases List.mem_or_eq_of_mem_set hc with q | q
    ·exact h5 c q
    ·rw [q,List.length_drop]; have := h5 _ gm; omega
   have gl : (fp L a b).length = b := by rw [fp_len]; omega
   obtain ⟨d',J⟩ := ih _ (d.set a (d.getD a 0 + b)) (out ++ fp L a b) hL2 (lft_set F aC b2) h52 (by omega) (by rw [List.length_append,gl]; omega)
   refine ⟨d',?_⟩
   simp only
   rw [← List.append_assoc,← J,w_spec_ChainOrder_0,step L d out a b hL F h5 hl hc a1 b1 b2 (by omega)]
end
section
attribute [-simp] DV.cells
attribute [local simp] sliceD cells_st cells_sl cells_i cells_y cells_b cells_s cells_w
attribute [local simp] lend_eR al_eR
set_option maxHeartbeats 4000000 in
theorem co_step {us : List T} (h : tsOk us = true) {C : LN} (hC : ∀ c ∈ C,c.length ≤ 5) (cn : C.length ≤ 5) : CoStep us C := by
   intro L d out a b hL F h5 hl hc a1 b1 b2 hlt0
   have h' := tsOk_iff.1 h
   have m5 : us.length ≤ 5 := by omega
   have aC : a < C.length := by rw [← F.len]; exact a1
   have gl : (fp L a b).length = b := by rw [fp_len]; omega
   have O := co_outer (out := out) h hL F h5 hC cn
   rw [← F.len,hc] at O
   have Aa := at_C aC
   have ha' : (a : Int) < (C.map ni).length := by simp; omega
   have nl := ni_len C[a]
   have nd := ni_len d
   have no := ni_len out
   have hd : a < d.length := by rw [F.dl]; exact aC
   have hd' : (a : Int) < d.length := by omega
   have dk : d[a]? = some (d.getD a 0) := by rw [List.getD_eq_getElem?_getD,List.getElem?_eq_getElem hd]; rfl
   obtain ⟨ao,an⟩ := at_ni dk
   have Fe := F.eq a aC
   have Fl := F.le a aC
   have ll : (L.getD a []).length = C[a].length - d.getD a 0 := by rw [Fe]; simp
   have c5 := hC _ (List.getElem_mem aC)
   have tk : List.drop (d.getD a 0) (List.take (d.getD a 0 + b) ((ni C[a]).map DV.i)) = (ni (fp L a b)).map .i := by
    unfold fp ni
    rw [Fe]
    simp [List.drop_take]
   have w1 : wr ((d.getD a 0 : Int) + (b : Int)) = ((d.getD a 0 + b : Nat) : Int) := by rw [wr_id (by omega) (by omega)]; omega
   have q1 : d.getD a 0 + b ≤ C[a].length := by omega
   have q2 : d.getD a 0 ≤ d.getD a 0 + b := by omega
   have hlt : out.length < us.length := by omega
   have hlt' : (out.length : Int) < us.length := by omega
   have bd : out.length + b ≤ bound := by unfold bound; omega
   have ns := ni_set d a (d.getD a 0 + b)
   have ng : (ni (fp L a b)).length = b := by rw [ni_len,gl]
   have ap := ni_app out (fp L a b)
   generalize d.getD a 0 + b = e at *
   generalize d.getD a 0 = dn at *
   unfold stN0 at *
   unfold stN1 at O
   simp only [s7,s8,s9,s10,Int.natCast_zero] at O
   generalize c9 us (fp L a b) = z9 at *
   generalize e9 us (fp L a b) = z10 at *
   generalize fp L a b = g at *
   generalize C.map ni = L' at *
   simp [F_spec_ChainOrder_L0,Aa,ha',nl,nd,no,ng,gl,hd,hd',ao,an,w1,q1,q2,tk,hlt,hlt',bd,ns,ap,O,-Int.natCast_add]
def coV (us : List T) (L : List (List Int)) : List Nat := if cbO us L then chF us us.length (natL L) else []
set_option maxHeartbeats 1000000 in
theorem c_spec_ChainOrder (us : List T) (L : List (List Int)) (ha : (us.length : Int) < 1099511627776) (hb : (L.length : Int) < 1099511627776) (hf : (L.flatten.length : Int) < 1099511627776) :
  call lf n_spec_ChainOrder [.sl 0 (us.map e2),.sl 0 (L.map eR)] = some (.fr 1 ((ni (coV us L)).map .i),[]) := by
 rw [call_k lf n_spec_ChainOrder _ (F := F_spec_ChainOrder) rfl rfl]
 have C1 := c_spec_TestsOk us ha
 have C2 := c_spec_GroupsOk us.length L hb hf
 have n0 : (ni []).map DV.i = [] := rfl
 unfold coV cbO
 cases h1 : tsOk us with
 | false => rw [h1] at C1; simp [F_spec_ChainOrder,C1,n0]
 | true =>
  rw [h1] at C1
  cases h2 : gokB us.length L with
  | false => rw [h2] at C2; simp [F_spec_ChainOrder,C1,C2,n0]
  | true =>
   rw [h2] at C2
   have h' := tsOk_iff.1 h1
   obtain ⟨N,rfl,G⟩ := gok_of (m := us.length) (by omega) h2
   have gl := gok_len G
   have cn : N.length ≤ 5 := by have := flat_ge9 G.ne; omega
   have c5 : ∀ c ∈ N,c.length ≤ 5 := fun c hc => by
    obtain ⟨A,B,e⟩ := List.append_of_mem hc
    have e2 : N.flatten.length = (A ++ c :: B).flatten.length := by rw [← e]
    rw [List.flatten_append,List.flatten_cons,List.length_append,List.length_append] at e2
    omega
   have F : Lft N N (List.replicate N.length 0) := by
    refine ⟨rfl,by simp,fun i hi => ?_,fun i hi => ?_⟩
    ·rw [List.getD_eq_getElem?_getD,List.getElem?_eq_getElem hi,List.getD_eq_getElem?_getD,List.getElem?_replicate]
     simp [hi]
    ·rw [List.getD_eq_getElem?_getD,List.getElem?_replicate]
     simp [hi]
   obtain ⟨d',J⟩ := co_main h1 c5 cn (co_step h1 c5 cn) us.length N _ [] G.lt F c5 (by omega) (by simp [gl])
   have rp : (ni (List.replicate N.length 0)).map DV.i = List.replicate N.length (.i 0) := by simp [ni]
   have nb : N.length ≤ bound := by unfold bound; omega
   have nn : ¬ (N.length : Int) < 0 := by omega
   have lN : (N.map ni).length = N.length := by simp
   unfold stN0 at J
   rw [rp,n0,List.nil_append] at J
   rw [natL_ni]
   have nc := ni_len (chF us us.length N)
   have tk : List.take (chF us us.length N).length ((ni (chF us us.length N)).map DV.i) = (ni (chF us us.length N)).map .i := List.take_of_length_le (by simp [nc])
   simp only [List.length_replicate,List.length_nil] at J
   generalize chF us us.length N = R at *
   generalize N.length = n at *
   generalize N.map ni = L' at *
   simp [F_spec_ChainOrder,C1,C2,J,lN,nb,nn,nc,tk]
end
section
attribute [-simp] DV.cells
attribute [local simp] sliceD cells_st cells_sl cells_i cells_y cells_b cells_s cells_w
theorem chF_wk {us : List T} (h : tsOk us = true) {N : LN} (G : Gok us.length N) : Wk N (chF us us.length N) :=
 (chF_ok (tsOk_iff.1 h).2 us.length N G.lt (by have := gok_len G; omega)).1
theorem cbO_of {us : List T} {L : List (List Int)} (h : cbO us L = true) : ∃ N : LN,L = N.map ni ∧ tsOk us = true ∧ Gok us.length N ∧ (1 ≤ us.length ∧ us.length ≤ 5) ∧ coV us L = chF us us.length N ∧ cbV us L = gD ((chF us us.length N).map (itC us)) := by
 have h0 := h
 unfold cbO at h
 rw [Bool.and_eq_true] at h
 have h' := tsOk_iff.1 h.1
 obtain ⟨N,rfl,G⟩ := gok_of (m := us.length) (by omega) h.2
 refine ⟨N,rfl,h.1,G,by omega,?_,?_⟩
 ·unfold coV; rw [h0,natL_ni]; rfl
 ·unfold cbV; rw [h0,natL_ni]; rfl
end
section
theorem coV_leX (us : List T) (L : List (List Int)) (hu : us.length ≤ 1048576) : (coV us L).length ≤ 1048576 := by
 cases h : cbO us L with
 | false => unfold coV; rw [h]; simp
 | true =>
  obtain ⟨N,rfl,h1,G,hm,e,_⟩ := cbO_of h
  rw [e]
  have := (wk_perm (chF_wk h1 G)).length_eq
  rw [gok_len G] at this
  omega
end
section
attribute [-simp] DV.cells
attribute [local simp] sliceD cells_st cells_sl cells_i cells_y cells_b cells_s cells_w
attribute [local simp] lend_eR al_eR lend_eN adopt_eN new_eN
theorem c_impl_isLessG (a b x y : Int) (h1 : 0 ≤ a * y ∧ a * y ≤ 4000000000000) (h2 : 0 ≤ x * b ∧ x * b ≤ 4000000000000) : call lf n_impl_ratio_isLess [.st [.i a,.i b],.st [.i x,.i y]] = some (.b (decide (a * y < x * b)),[]) := by
 rw [call_k lf n_impl_ratio_isLess _ (F := F_impl_ratio_isLess) rfl rfl]
 have w1 : wr (a * y) = a * y := wr_id (by omega) (by omega)
 have w2 : wr (x * b) = x * b := wr_id (by omega) (by omega)
 simp [F_impl_ratio_isLess,w1,w2]
end
section
attribute [-simp] DV.cells
attribute [local simp] sliceD cells_st cells_sl cells_i cells_y cells_b cells_s cells_w
attribute [local simp] lend_eR al_eR
theorem c9_snoc (us : List T) (p : List Nat) (a : Nat) : c9 us (p ++ [a]) = 6 * (c9 us p + cA us a * gS (p.map (itC us))) ∧ gS ((p ++ [a]).map (itC us)) = gS (p.map (itC us)) * pA us a := by
 unfold c9
 rw [List.map_append,gD_app,gS_app]
 have e1 : gM ([a].map (itC us)) = 6 := by simp [gM,itC]
 have e2 : gD ([a].map (itC us)) = 6 * cA us a := by simp [gD,gM,itC]
 have e3 : gS ([a].map (itC us)) = pA us a := by simp [gS,itC]; omega
 rw [e1,e2,e3]
 refine ⟨?_,rfl⟩
 grind
theorem gS_le {us : List T} (h : us.all tOk = true) {p : List Nat} (h5 : p.length ≤ 5) (hp : ∀ k ∈ p,k < us.length) : 0 ≤ gS (p.map (itC us)) ∧ gS (p.map (itC us)) ≤ 7776 := by
 have b := gS_bd (itC_ok h hp)
 have q := p6 (n := p.length) h5
 rw [itC_M] at b
 omega
def stRp (us : List T) (g : List Nat) (sum on : Int) (k : Nat) : LS := ⟨[(0,.sl 0 (us.map e2)),(1,.sl 0 ((ni g).map .i)),(4,.oad 2064 1 0 0),(5,.i sum),(6,.i on),(9,.sl 0 ((ni g).map .i)),(10,.i g.length),(11,.i k)],[(2064,[.st [.i 0,.i 0]])]⟩
set_option maxHeartbeats 4000000 in
theorem part_loop {us : List T} (h : us.all tOk = true) (g : List Nat) (h5 : g.length ≤ 5) (hg : ∀ k ∈ g,k < us.length) : ∀ (rest don : List Nat),g = don ++ rest →
  ex lf F_impl_ratioOfPart_W0 (stRp us g (c9 us don) (gS (don.map (itC us))) don.length) = some (.exit 0,stRp us g (c9 us g) (gS (g.map (itC us))) g.length) := by
 intro rest
 induction rest with
 | nil =>
  intro don e
  rw [List.append_nil] at e
  subst e
  rw [w_impl_ratioOfPart_0]
  simp [stRp,F_impl_ratioOfPart_L0]
 | cons a rest ih0 =>
  intro don e
  have I := ih0 (don ++ [a]) (by rw [e]; simp)
  have gl : g.length = don.length + (rest.length + 1) := by rw [e]; simp
  have k2 : g[don.length]? = some a := by rw [e]; simp
  have ha : a < us.length := hg a (List.mem_of_getElem? k2)
  obtain ⟨at1,_⟩ := at_ni k2
  have at2 := atT ha
  have cb := cA_bd h ha
  have pb := pA_bd h ha
  have dm : ∀ k ∈ don,k < us.length := fun k hk => hg k (by rw [e]; simp [hk])
  have d5 : don.length ≤ 5 := by omega
  have b1 := (c9_le h d5 dm).1
  have b2 := gS_le h d5 dm
  obtain ⟨s1,s2⟩ := c9_snoc us don a
  have b3 := (c9_le h (l := don ++ [a]) (by simp; omega) (fun k hk => by
   rcases List.mem_append.1 hk with q | q
   ·exact dm k q
   ·rw [List.mem_singleton.1 q]; exact ha)).1
  have b4 := gS_le h (p := don ++ [a]) (by simp; omega) (fun k hk => by
   rcases List.mem_append.1 hk with q | q
   ·exact dm k q
   ·rw [List.mem_singleton.1 q]; exact ha)
  rw [s1] at b3 I
  rw [s2] at b4 I
  rw [List.length_append,List.length_singleton] at I
  have hk : (don.length : Int) < g.length := by omega
  have hk' : don.length < g.length := by omega
  have nl := ni_len g
  have w7 := wr_succ (k := don.length) (by omega)
  rw [w_impl_ratioOfPart_0]
  unfold stRp at *
  generalize c9 us g = Z at *
  generalize gS (g.map (itC us)) = Y at *
  generalize c9 us don = S at *
  generalize gS (don.map (itC us)) = R at *
  generalize cA us a = c at *
  generalize pA us a = q at *
  generalize don.length = n at *
  have m1 : 0 ≤ c * R ∧ c * R ≤ 9 * 7776 := ⟨Int.mul_nonneg (by omega) b2.1,Int.mul_le_mul (by omega) (by omega) b2.1 (by omega)⟩
  have w2 : wr (c * R) = c * R := wr_id (by omega) (by omega)
  have w3 : wr (S + c * R) = S + c * R := wr_id (by omega) (by omega)
  have w4 : wr (6 * (S + c * R)) = 6 * (S + c * R) := wr_id (by omega) (by omega)
  have w5 : wr (R * q) = R * q := wr_id (by omega) (by omega)
  simp [F_impl_ratioOfPart_L0,hk,hk',nl,at1,at2,ha,w2,w3,w4,w5,w7,I,-Int.natCast_add]
set_option maxHeartbeats 1000000 in
theorem c_ratioOfPart {us : List T} (h : tsOk us = true) {g : List Nat} (h5 : g.length ≤ 5) (hg : ∀ k ∈ g,k < us.length) :
  call lf n_impl_ratioOfPart [.sl 0 (us.map e2),.sl 0 ((ni g).map .i)] = some (.st [.i (c9 us g),.i (e9 us g)],[]) := by
 rw [call_k lf n_impl_ratioOfPart _ (F := F_impl_ratioOfPart) rfl rfl]
 have h' := tsOk_iff.1 h
 have I := part_loop h'.2 g h5 hg g [] rfl
 have W := c_impl_wholeOf (n := g.length) h5
 have b := gS_le h'.2 h5 hg
 have pk := p6 (n := g.length) h5
 have e0 : c9 us [] = 0 := rfl
 have e1 : gS (([] : List Nat).map (itC us)) = 1 := rfl
 rw [e0,e1] at I
 rw [e9_eq]
 have nl := ni_len g
 unfold stRp at I
 simp only [List.length_nil,Int.natCast_zero] at I
 generalize gS (g.map (itC us)) = S at *
 generalize c9 us g = D at *
 generalize (6 : Int) ^ g.length = P at *
 have w : wr (P - S) = P - S := wr_id (by omega) (by omega)
 simp [F_impl_ratioOfPart,I,W,nl,w]
end
section
attribute [-simp] DV.cells
attribute [local simp] sliceD cells_st cells_sl cells_i cells_y cells_b cells_s cells_w
attribute [local simp] lend_eR al_eR
def eP (p : Nat) (row : List Int) : DV := .sl p (row.map .i)
theorem eP_zero : eP 0 = eR := rfl
theorem lend_eP (p : Nat) (L : List (List Int)) : lendL (L.map (eP p)) = L.map eR := by
 rw [lendL_map,List.map_map]
 apply List.map_congr_left
 intro r _
 simp [eP,eR,DV.lend]
theorem adopt_eRP (o : Bool) (L : List (List Int)) : adoptL o (L.map eR) = L.map (eP (adoptP o 0)) := by
 rw [adoptL_map,List.map_map]
 apply List.map_congr_left
 intro r _
 simp [eP,eR,DV.adopt]
theorem at_eP {A : List (List Int)} {k : Nat} {r : List Int} (p : Nat) (h : A[k]? = some r) : atI (A.map (eP p)) (k : Int) = some (.sl p (r.map .i)) := by
 simp only [atI,if_pos (Int.natCast_nonneg k)]
 show (A.map (eP p))[(k : Int).toNat]? = _
 rw [Int.toNat_natCast,List.getElem?_map,h]; rfl
theorem cells_eR {L : List (List Int)} : ∀ e ∈ L.map eR,e.cells.length = 1 := fun e he => by
 obtain ⟨r,_,rfl⟩ := List.mem_map.1 he
 rfl
theorem c_cloneR {L : List (List Int)} (hb : L.length ≤ 1000) (hn : L ≠ []) : call lf n_slices_Clone_int_int [.sl 0 (L.map eR)] = some (.fr 1 (L.map eR),[]) := by
 rw [call_k lf n_slices_Clone_int_int _ (F := F_slices_Clone_int_int) rfl rfl]
 have bd : L.length ≤ bound := by unfold bound; omega
 have w := cells_eR (L := L)
 have e : (L.map eR).length = L.length := by simp
 have hn' : L.map eR ≠ [] := by simpa using hn
 generalize L.map eR = M at *
 rw [← e] at bd
 simp [F_slices_Clone_int_int,bd,if_pos w,hn']

theorem set_eR (L : LN) (a b : Nat) (ha : a < L.length) : ((L.map ni).map eR).set a (.sl 0 (List.drop b ((ni L[a]).map .i))) = ((L.set a ((L.getD a []).drop b)).map ni).map eR := by
 have e : L.getD a [] = L[a] := by rw [List.getD_eq_getElem?_getD,List.getElem?_eq_getElem ha]; rfl
 rw [e,List.map_set,List.map_set]
 congr 1
 simp [eR,ni,List.map_drop]
set_option maxHeartbeats 1000000 in
theorem c_behindPart {L : LN} (hL : L.length ≤ 5) {a b : Nat} (ha : a < L.length) (hb : b ≤ (L.getD a []).length) (h5 : (L.getD a []).length ≤ 5) :
  call lf n_impl_behindPart [.sl 0 ((L.map ni).map eR),.st [.i a,.i b]] = some (.sl 1 (((L.set a ((L.getD a []).drop b)).map ni).map eR),[]) := by
 rw [call_k lf n_impl_behindPart _ (F := F_impl_behindPart) rfl rfl]
 have e : L.getD a [] = L[a] := by rw [List.getD_eq_getElem?_getD,List.getElem?_eq_getElem ha]; rfl
 have C := c_cloneR (L := L.map ni) (by simp; omega) (fun q => by rw [List.map_eq_nil_iff] at q; subst q; simp at ha)
 have A := at_C ha
 have An : atN ((L.map ni).map eR) a = some (.sl 0 ((ni L[a]).map .i)) := by
  simp only [atI,if_pos (Int.natCast_nonneg a),Int.toNat_natCast] at A
  exact A
 have S := set_eR L a b ha
 have ll : ((L.map ni).map eR).length = L.length := by simp
 have ha' : (a : Int) < L.length := by omega
 have nl := ni_len L[a]
 rw [e] at hb h5 S ⊢
 have ao := adopt_eRP true (L.map ni)
 have ap : adoptP true 0 = 0 := rfl
 rw [ap,eP_zero] at ao
 have w := cells_eR (L := L.map ni)
 generalize L[a] = c at *
 have lM : (((L.set a (c.drop b)).map ni).map eR).length = L.length := by simp
 have tk : List.take c.length ((ni c).map DV.i) = (ni c).map .i := List.take_of_length_le (by simp [nl])
 generalize (((L.set a (c.drop b)).map ni).map eR) = M' at *
 have tM : List.take L.length M' = M' := List.take_of_length_le (by omega)
 have aL := al_eR (L.map ni)
 have le := lend_eR (L.map ni)
 generalize (L.map ni).map eR = M at *
 simp [F_impl_behindPart,C,A,An,S,tk,tM,lM,ll,ha,ha',nl,hb,ao,w,aL,le]
def s5 : Option (Nat × Nat) → DV
 | none => .st [.i 0,.i 0]
 | some (a,b) => .st [.i (a : Nat),.i (b : Nat)]
def s6 (us : List T) (L : LN) : Option (Nat × Nat) → DV
 | none => .st [.i 0,.i 0]
 | some (a,b) => .st [.i (c9 us (fp L a b)),.i (e9 us (fp L a b))]
def s1 (st : Option (Nat × Nat)) : Prop := ∀ a b,st = some (a,b) → 1 ≤ b
theorem s1_cnd {us : List T} {L : LN} {st : Option (Nat × Nat)} (h : s1 st) (k n : Nat) : s1 (cnd us L st k (n + 1)) := by
 cases st with
 | none => intro a b e; simp only [cnd,Option.some.injEq,Prod.mk.injEq] at e; omega
 | some p =>
  obtain ⟨x,y⟩ := p
  intro a b e
  simp only [cnd] at e
  split at e
  ·simp only [Option.some.injEq,Prod.mk.injEq] at e; omega
  ·exact h a b e
theorem s1_cndN {us : List T} {L : LN} {st : Option (Nat × Nat)} (h : s1 st) (k : Nat) : ∀ n,s1 (cndN us L k st n)
 | 0 => h
 | n + 1 => s1_cnd (s1_cndN h k n) k n
theorem s1_cndI (us : List T) (L : LN) : ∀ n,s1 (cndI us L n)
 | 0 => fun a b e => by cases e
 | n + 1 => s1_cndN (s1_cndI us L n) n _
def stW1 (us : List T) (L : LN) (st : Option (Nat × Nat)) (k : Nat) (c : List Nat) (n : Nat) : LS :=
 ⟨[(0,.sl 0 (us.map e2)),(4,.oad 2064 1 0 0),(5,.oad 2576 1 0 0),(6,.oad 3088 1 0 0),(7,.i k),(8,.sl 0 ((ni c).map .i)),(9,.i n),(11,.sl 0 ((L.map ni).map eR)),(12,.i L.length),(13,.i k)],[(2064,[.st [.i 0,.i 0]]),(2576,[s5 st]),(3088,[s6 us L st])]⟩
def stW0 (us : List T) (L : LN) (st : Option (Nat × Nat)) (k : Nat) : LS :=
 ⟨[(0,.sl 0 (us.map e2)),(4,.oad 2064 1 0 0),(5,.oad 2576 1 0 0),(6,.oad 3088 1 0 0),(11,.sl 0 ((L.map ni).map eR)),(12,.i L.length),(13,.i k)],[(2064,[.st [.i 0,.i 0]]),(2576,[s5 st]),(3088,[s6 us L st])]⟩
set_option maxHeartbeats 4000000 in
theorem lpt_inner {us : List T} (h : tsOk us = true) {L : LN} (hL : LOk us L) {k : Nat} (hk : k < L.length) (h5 : ∀ c ∈ L,c.length ≤ 5) (st : Option (Nat × Nat)) (hs : s1 st) :
  ex lf F_impl_leastPart_W1 (stW1 us L st k (L.getD k []) 1) = some (.exit 2,stW1 us L (cndN us L k st (L.getD k []).length) k (L.getD k []) ((L.getD k []).length + 1)) := by
 have h' := tsOk_iff.1 h
 have e : L.getD k [] = L[k] := by rw [List.getD_eq_getElem?_getD,List.getElem?_eq_getElem hk]; rfl
 have c5 : (L.getD k []).length ≤ 5 := by rw [e]; exact h5 _ (List.getElem_mem hk)
 have nl := ni_len (L.getD k [])
 refine loop_count (lf := lf) (L := F_impl_leastPart_L1) (L.getD k []).length (fun i => stW1 us L (cndN us L k st i) k (L.getD k []) (i + 1)) (fun i hi => ?_) ?_ (by simp)
 ·show ex lf F_impl_leastPart_L1 (stW1 us L (cndN us L k st i) k (L.getD k []) (i + 1)) = some (.normal,stW1 us L (cnd us L (cndN us L k st i) k (i + 1)) k (L.getD k []) (i + 2))
  have hs' := s1_cndN (us := us) (L := L) hs k i
  generalize cndN us L k st i = s at *
  have gm : ∀ x ∈ fp L k (i + 1),x < us.length := fun x hx => by
   obtain ⟨c,hc,hxc⟩ := fp_mem hx
   exact hL c hc x hxc
  have g5 : (fp L k (i + 1)).length ≤ 5 := by rw [fp_len]; omega
  have R := c_ratioOfPart h g5 gm
  have B := c9_le h'.2 g5 gm
  have tk : List.take (i + 1) ((ni (L.getD k [])).map DV.i) = (ni (fp L k (i + 1))).map .i := by
   unfold fp ni
   simp
  have w2 := wr_succ (k := i + 1) (by omega)
  have q1 : i + 1 ≤ (L.getD k []).length := by omega
  have q1' : ((i + 1 : Nat) : Int) ≤ (L.getD k []).length := by omega
  cases s with
  | none =>
   have e1 : cnd us L none k (i + 1) = some (k,i + 1) := rfl
   rw [e1]
   unfold stW1
   simp only [s5,s6]
   generalize fp L k (i + 1) = g at *
   generalize L.getD k [] = c at *
   generalize L.map ni = L' at *
   generalize hi1 : i + 1 = i1 at *
   have hi2 : i + 2 = i1 + 1 := by omega
   rw [hi2]
   simp [F_impl_leastPart_L1,nl,w2,q1,q1',tk,R,-Int.natCast_add]
  | some p =>
   obtain ⟨a,b⟩ := p
   have b1 := hs' a b rfl
   have H := fp5 h5 a b
   have am : ∀ x ∈ fp L a b,x < us.length := fun x hx => by
    obtain ⟨c,hc,hxc⟩ := fp_mem hx
    exact hL c hc x hxc
   have B2 := c9_le h'.2 H am
   have e1 : cnd us L (some (a,b)) k (i + 1) = if c9 us (fp L k (i + 1)) * e9 us (fp L a b) < c9 us (fp L a b) * e9 us (fp L k (i + 1)) then some (k,i + 1) else some (a,b) := rfl
   rw [e1]
   have m1 : 0 ≤ c9 us (fp L k (i + 1)) * e9 us (fp L a b) ∧ c9 us (fp L k (i + 1)) * e9 us (fp L a b) ≤ 349920 * 7776 := ⟨Int.mul_nonneg B.1.1 B2.2.1,Int.mul_le_mul B.1.2 B2.2.2 B2.2.1 (by omega)⟩
   have m2 : 0 ≤ c9 us (fp L a b) * e9 us (fp L k (i + 1)) ∧ c9 us (fp L a b) * e9 us (fp L k (i + 1)) ≤ 349920 * 7776 := ⟨Int.mul_nonneg B2.1.1 B.2.1,Int.mul_le_mul B2.1.2 B.2.2 B.2.1 (by omega)⟩
   have I := c_impl_isLessG (c9 us (fp L k (i + 1))) (e9 us (fp L k (i + 1))) (c9 us (fp L a b)) (e9 us (fp L a b)) ⟨m1.1,by omega⟩ ⟨m2.1,by omega⟩
   have nb : ((b : Int) == 0) = false := by simp; omega
   have nb' : ¬ b = 0 := by omega
   by_cases q : c9 us (fp L k (i + 1)) * e9 us (fp L a b) < c9 us (fp L a b) * e9 us (fp L k (i + 1))
   ·rw [if_pos q]
    rw [decide_eq_true q] at I
    unfold stW1
    simp only [s5,s6]
    generalize fp L k (i + 1) = g at *
    generalize fp L a b = g2 at *
    generalize L.getD k [] = c at *
    generalize L.map ni = L' at *
    generalize hi1 : i + 1 = i1 at *
    have hi2 : i + 2 = i1 + 1 := by omega
    rw [hi2]
    simp [F_impl_leastPart_L1,nl,w2,q1,q1',tk,R,I,nb,nb',-Int.natCast_add]
   ·rw [if_neg q]
    rw [decide_eq_false q] at I
    unfold stW1
    simp only [s5,s6]
    generalize fp L k (i + 1) = g at *
    generalize fp L a b = g2 at *
    generalize L.getD k [] = c at *
    generalize L.map ni = L' at *
    generalize hi1 : i + 1 = i1 at *
    have hi2 : i + 2 = i1 + 1 := by omega
    rw [hi2]
    simp [F_impl_leastPart_L1,nl,w2,q1,q1',tk,R,I,nb,nb',-Int.natCast_add]
 ·show ex lf F_impl_leastPart_L1 (stW1 us L (cndN us L k st (L.getD k []).length) k (L.getD k []) ((L.getD k []).length + 1)) = _
  generalize cndN us L k st (L.getD k []).length = s at *
  have q1 : ¬ ((((L.getD k []).length + 1 : Nat) : Int) ≤ (L.getD k []).length) := by omega
  unfold stW1
  generalize s5 s = v5 at *
  generalize s6 us L s = v6 at *
  generalize hn1 : (L.getD k []).length + 1 = n1 at *
  generalize L.getD k [] = c at *
  generalize L.map ni = L' at *
  simp [F_impl_leastPart_L1,nl,q1,-Int.natCast_add]
set_option maxHeartbeats 1000000 in
theorem lpt_outer {us : List T} (h : tsOk us = true) {L : LN} (hL : LOk us L) (h5 : ∀ c ∈ L,c.length ≤ 5) (ln : L.length ≤ 5) :
  ex lf F_impl_leastPart_W0 (stW0 us L none 0) = some (.exit 0,stW0 us L (cndI us L L.length) L.length) := by
 have ll : (L.map ni).length = L.length := by simp
 refine loop_count (lf := lf) (L := F_impl_leastPart_L0) L.length (fun k => stW0 us L (cndI us L k) k) (fun k hk => ?_) ?_ (by simp)
 ·have I := lpt_inner h hL hk h5 (cndI us L k) (s1_cndI us L k)
  have e : cndN us L k (cndI us L k) (L.getD k []).length = cndI us L (k + 1) := rfl
  rw [e] at I
  show ex lf F_impl_leastPart_L0 (stW0 us L (cndI us L k) k) = some (.normal,stW0 us L (cndI us L (k + 1)) (k + 1))
  have hk' : (k : Int) < L.length := by omega
  have A := at_C hk
  have e' : L.getD k [] = L[k] := by rw [List.getD_eq_getElem?_getD,List.getElem?_eq_getElem hk]; rfl
  rw [← e'] at A
  have w1 := wr_succ (k := k) (by omega)
  unfold stW0
  unfold stW1 at I
  generalize s5 (cndI us L (k + 1)) = y5 at *
  generalize s6 us L (cndI us L (k + 1)) = y6 at *
  generalize s5 (cndI us L k) = v5 at *
  generalize s6 us L (cndI us L k) = v6 at *
  generalize (L.getD k []).length + 1 = nn at *
  have e1 : ((1 : Nat) : Int) = 1 := rfl
  rw [e1] at I
  generalize L.getD k [] = c at *
  generalize L.map ni = L' at *
  simp [F_impl_leastPart_L0,A,ll,hk,hk',w1,I,-Int.natCast_add]
 ·show ex lf F_impl_leastPart_L0 (stW0 us L (cndI us L L.length) L.length) = _
  unfold stW0
  generalize s5 (cndI us L L.length) = v5 at *
  generalize s6 us L (cndI us L L.length) = v6 at *
  generalize L.map ni = L' at *
  simp [F_impl_leastPart_L0,ll]
set_option maxHeartbeats 1000000 in
theorem c_leastPart {us : List T} (h : tsOk us = true) {L : LN} (hL : LOk us L) (h5 : ∀ c ∈ L,c.length ≤ 5) (ln : L.length ≤ 5) {a b : Nat} (hc : cndI us L L.length = some (a,b)) :
  call lf n_impl_leastPart [.sl 0 (us.map e2),.sl 0 ((L.map ni).map eR)] = some (.st [.i a,.i b],[]) := by
 rw [call_k lf n_impl_leastPart _ (F := F_impl_leastPart) rfl rfl]
 have O := lpt_outer h hL h5 ln
 rw [hc] at O
 have ll : (L.map ni).length = L.length := by simp
 unfold stW0 at O
 simp only [s5,s6,Int.natCast_zero] at O
 generalize c9 us (fp L a b) = z9 at *
 generalize e9 us (fp L a b) = z10 at *
 generalize L.map ni = L' at *
 simp [F_impl_leastPart,ll,O]
end
section
attribute [-simp] DV.cells
attribute [local simp] sliceD cells_st cells_sl cells_i cells_y cells_b cells_s cells_w
attribute [local simp] lend_eR al_eR
def qp (q p : Nat) : Prop := (q = 0 ∧ p = 0) ∨ (q = 1 ∧ p = 0) ∨ (q = 1 ∧ p = 2)
def stO9 (us : List T) (q p : Nat) (L : LN) (out : List Nat) : LS :=
 ⟨[(0,.sl 0 (us.map e2)),(5,.own 2568 out.length 0 out.length),(6,.sl q ((L.map ni).map (eP p)))],[(2568,(ni out).map .i)]⟩
set_option maxHeartbeats 4000000 in
theorem o9_step {us : List T} (h : tsOk us = true) {L : LN} {out : List Nat} {a b q p : Nat} (Q : qp q p) (hL : LOk us L) (h5 : ∀ c ∈ L,c.length ≤ 5) (ln : L.length ≤ 5) (hl : out.length + L.flatten.length = us.length) (hc : cndI us L L.length = some (a,b)) (a1 : a < L.length) (b1 : 1 ≤ b) (b2 : b ≤ (L.getD a []).length) (hlt : out.length < us.length) :
  ∃ q' p',qp q' p' ∧ ex lf F_impl_ChainOrder_L0 (stO9 us q p L out) = some (.normal,stO9 us q' p' (L.set a ((L.getD a []).drop b)) (out ++ fp L a b)) := by
 have h' := tsOk_iff.1 h
 have m5 : us.length ≤ 5 := by omega
 have e : L.getD a [] = L[a] := by rw [List.getD_eq_getElem?_getD,List.getElem?_eq_getElem a1]; rfl
 have c5 : (L.getD a []).length ≤ 5 := by rw [e]; exact h5 _ (List.getElem_mem a1)
 have gl : (fp L a b).length = b := by rw [fp_len]; omega
 have C := c_leastPart h hL h5 ln hc
 have B := c_behindPart ln a1 b2 c5
 have A := at_eP (A := L.map ni) (k := a) (r := ni (L.getD a [])) p (by rw [List.getElem?_map,List.getElem?_eq_getElem a1,e]; rfl)
 have ll : ((L.map ni).map (eP p)).length = L.length := by simp
 have a1' : (a : Int) < L.length := by omega
 have hlt' : (out.length : Int) < us.length := by omega
 have nl := ni_len (L.getD a [])
 have tk : List.take b ((ni (L.getD a [])).map DV.i) = (ni (fp L a b)).map .i := by
  unfold fp ni
  simp
 have ng : (ni (fp L a b)).length = b := by rw [ni_len,gl]
 have no := ni_len out
 have ap := ni_app out (fp L a b)
 have bd : out.length + b ≤ bound := by unfold bound; omega
 have le := lend_eP p (L.map ni)
 have ao := adopt_eRP true ((L.set a ((L.getD a []).drop b)).map ni)
 have af := adopt_eRP false ((L.set a ((L.getD a []).drop b)).map ni)
 rw [show adoptP true 0 = 0 from rfl] at ao
 rw [show adoptP false 0 = 2 from rfl] at af
 have al : p = 0 → allOldL ((L.map ni).map (eP p)) = true := fun e => by rw [e]; exact al_eR _
 unfold stO9
 generalize (L.set a ((L.getD a []).drop b)).map ni = M at *
 generalize fp L a b = g at *
 generalize L.getD a [] = c at *
 rcases Q with ⟨rfl,rfl⟩ | ⟨rfl,rfl⟩ | ⟨rfl,rfl⟩
 ·have al := al rfl
  refine ⟨1,0,.inr (.inl ⟨rfl,rfl⟩),?_⟩
  generalize M.map (eP 0) = M0 at *
  generalize (L.map ni).map (eP 0) = L0 at *
  generalize (L.map ni).map eR = L1 at *
  simp [F_impl_ChainOrder_L0,C,B,A,ll,a1,a1',hlt,hlt',nl,tk,ng,no,ap,bd,le,ao,af,al,b2,gl,-Int.natCast_add]
 ·refine ⟨1,2,.inr (.inr ⟨rfl,rfl⟩),?_⟩
  generalize M.map (eP 2) = M0 at *
  generalize (L.map ni).map (eP 0) = L0 at *
  generalize (L.map ni).map eR = L1 at *
  simp [F_impl_ChainOrder_L0,C,B,A,ll,a1,a1',hlt,hlt',nl,tk,ng,no,ap,bd,le,ao,af,b2,gl,-Int.natCast_add]
 ·refine ⟨1,2,.inr (.inr ⟨rfl,rfl⟩),?_⟩
  generalize M.map (eP 2) = M0 at *
  generalize (L.map ni).map (eP 2) = L0 at *
  generalize (L.map ni).map eR = L1 at *
  simp [F_impl_ChainOrder_L0,C,B,A,ll,a1,a1',hlt,hlt',nl,tk,ng,no,ap,bd,le,ao,af,b2,gl,-Int.natCast_add]
set_option maxHeartbeats 4000000 in
theorem o9_main {us : List T} (h : tsOk us = true) : ∀ (f : Nat) (L : LN) (out : List Nat) (q p : Nat),qp q p → LOk us L → (∀ c ∈ L,c.length ≤ 5) → L.length ≤ 5 → L.flatten.length ≤ f → out.length + L.flatten.length = us.length →
  ∃ q' p' L',ex lf F_impl_ChainOrder_W0 (stO9 us q p L out) = some (.exit 0,stO9 us q' p' L' (out ++ chF us f L)) := by
 have h' := tsOk_iff.1 h
 have m5 : us.length ≤ 5 := by omega
 have done : ∀ (L : LN) (out : List Nat) (q p : Nat),L.flatten.length = 0 → out.length + L.flatten.length = us.length → ex lf F_impl_ChainOrder_W0 (stO9 us q p L out) = some (.exit 0,stO9 us q p L out) := fun L out q p z hl => by
  have e : out.length = us.length := by omega
  rw [w_impl_ChainOrder_0]
  unfold stO9
  generalize (L.map ni).map (eP p) = L' at *
  simp [F_impl_ChainOrder_L0,e]
 intro f
 induction f with
 | zero =>
  intro L out q p Q hL h5 ln hf hl
  refine ⟨q,p,L,?_⟩
  show _ = some (Ex.exit 0,stO9 us q p L (out ++ []))
  rw [List.append_nil]
  exact done L out q p (by omega) hl
 | succ f ih =>
  intro L out q p Q hL h5 ln hf hl
  have I := cndI_lst h'.2 hL L.length
  simp only [chF]
  cases hc : cndI us L L.length with
  | none =>
   rw [hc] at I
   have z : L.flatten = [] := List.flatten_eq_nil_iff.2 fun c hcm => by
    obtain ⟨i,hi,rfl⟩ := List.getElem_of_mem hcm
    have e : L.getD i [] = L[i] := by rw [List.getD_eq_getElem?_getD,List.getElem?_eq_getElem hi]; rfl
    cases q : L[i] with
    | nil => rfl
    | cons x r => exact absurd ⟨hi,Nat.le_refl 1,by rw [e,q]; simp⟩ (I i 1)
   refine ⟨q,p,L,?_⟩
   show _ = some (Ex.exit 0,stO9 us q p L (out ++ []))
   rw [List.append_nil]
   exact done L out q p (by rw [z]; rfl) hl
  | some ab =>
   obtain ⟨a,b⟩ := ab
   rw [hc] at I
   obtain ⟨⟨a1,b1,b2⟩,I2⟩ := I
   obtain ⟨A,B,hA,e1,e2⟩ := splitN_at a1 b
   have fl : L.flatten.length = b + (L.set a ((L.getD a []).drop b)).flatten.length := by
    rw [e2]
    have := congrArg (fun x => x.flatten.length) e1
    simp only [List.flatten_append,List.flatten_cons,List.length_append,List.length_take,List.length_drop] at this ⊢
    omega
   have gm : L.getD a [] ∈ L := by rw [List.getD_eq_getElem?_getD,List.getElem?_eq_getElem a1]; exact List.getElem_mem a1
   have hL2 : LOk us (L.set a ((L.getD a []).drop b)) := fun c hc x hx => by
    rcases List.mem_or_eq_of_mem_set hc with q | q
    ·exact hL c q x hx
    ·rw [q] at hx; exact hL _ gm x (List.mem_of_mem_drop hx)
   have h52 : ∀ c ∈ L.set a ((L.getD a []).drop b),c.length ≤ 5 := fun c hc => by
    rcases List.mem_or_eq_of_mem_set hc with q | q
    ·exact h5 c q
    ·rw [q,List.length_drop]; have := h5 _ gm; omega
   have gl : (fp L a b).length = b := by rw [fp_len]; omega
   obtain ⟨q2,p2,Q2,S⟩ := o9_step h Q hL h5 ln hl hc a1 b1 b2 (by omega)
   obtain ⟨q3,p3,L3,J⟩ := ih _ (out ++ fp L a b) q2 p2 Q2 hL2 h52 (by rw [List.length_set]; exact ln) (by omega) (by rw [List.length_append,gl]; omega)
   refine ⟨q3,p3,L3,?_⟩
   simp only
   rw [← List.append_assoc,← J,w_impl_ChainOrder_0,S]
set_option maxHeartbeats 1000000 in
theorem c_impl_ChainOrder (us : List T) (L : List (List Int)) (ha : (us.length : Int) < 1099511627776) (hb : (L.length : Int) < 1099511627776) (hf : (L.flatten.length : Int) < 1099511627776) :
  call lf n_impl_ChainOrder [.sl 0 (us.map e2),.sl 0 (L.map eR)] = some (.fr 1 ((ni (coV us L)).map .i),[]) := by
 rw [call_k lf n_impl_ChainOrder _ (F := F_impl_ChainOrder) rfl rfl]
 have C1 := c_impl_TestsOk us ha
 have C2 := c_impl_GroupsOk us.length L hb
 have n0 : (ni []).map DV.i = [] := rfl
 unfold coV cbO
 cases h1 : tsOk us with
 | false => rw [h1] at C1; simp [F_impl_ChainOrder,C1,n0]
 | true =>
  rw [h1] at C1
  cases h2 : gokB us.length L with
  | false => rw [h2] at C2; simp [F_impl_ChainOrder,C1,C2,n0]
  | true =>
   rw [h2] at C2
   have h' := tsOk_iff.1 h1
   obtain ⟨N,rfl,G⟩ := gok_of (m := us.length) (by omega) h2
   have gl := gok_len G
   have cn : N.length ≤ 5 := by have := flat_ge9 G.ne; omega
   have c5 : ∀ c ∈ N,c.length ≤ 5 := fun c hc => by
    obtain ⟨A,B,e⟩ := List.append_of_mem hc
    have e2 : N.flatten.length = (A ++ c :: B).flatten.length := by rw [← e]
    rw [List.flatten_append,List.flatten_cons,List.length_append,List.length_append] at e2
    omega
   obtain ⟨q',p',L',J⟩ := o9_main h1 us.length N [] 0 0 (.inl ⟨rfl,rfl⟩) G.lt c5 cn (by omega) (by simp [gl])
   unfold stO9 at J
   rw [n0,List.nil_append,eP_zero] at J
   rw [natL_ni]
   have nc := ni_len (chF us us.length N)
   have tk : List.take (chF us us.length N).length ((ni (chF us us.length N)).map DV.i) = (ni (chF us us.length N)).map .i := List.take_of_length_le (by simp [nc])
   simp only [List.length_nil] at J
   generalize chF us us.length N = R at *
   generalize (L'.map ni).map (eP p') = M at *
   generalize N.map ni = L' at *
   simp [F_impl_ChainOrder,C1,C2,J,nc,tk]
end
end Zz
