/- What the functions answer, as equations: EA. No conditions. -/
import Derived.Test.YtffghabijlfpeaaIrzq
import Derived.Test.YtffghabijlfpeaaE0
import Derived.Test.YtffghabijlfpeaaLgEzq
import Derived.Test.YtffghabijlfpeaaLgFzq
set_option linter.unusedSectionVars false
set_option linter.unusedVariables false
set_option linter.unusedSimpArgs false
namespace Zz
open Go.Lg Md
set_option linter.unusedSimpArgs false
set_option linter.unusedVariables false
attribute [local simp] tm_mv tm_newnil tm_pick tm_bin tm_eqb tm_eqs tm_un tm_len tm_lens tm_chk tm_fld tm_fldv tm_idxa tm_idx tm_load tm_store tm_slice tm_slices tm_make tm_alloc tm_box tm_build tm_app tm_conv tm_ext tm_call tm_calld tm_mkfn tm_mm tm_idxp tm_eqn tm_callg tm_callm tm_bslice0 tm_bslice1 tm_bslice2 tm_bslice cw_nil cw_cons cd_none cd_some ec_nil ec_cons es_nil es_one es_more nn_nil nn_cons ns_nil ns_cons si_nil si_cons sk_t stod_oad stod_own stod_adr stod_dead ml_nil ml_cons nt_nil nt_cons nc_nil' nc_cons sa_mkfn cv_adr cv_i cv_y cv_b cv_w sa_calld nm_def nh_nil nh_cons nxM_some nxM_none sc_st sd_i sd_y sd_b sd_s sd_w sd_q sc_i sc_y sc_b sc_s sc_w sc_q sa_bslice sa_app nc_own nc_nil sa_call sa_alloc sa_build sa_callm rm_nil rm_one rm_gen bq_mul bq_eql ia_mv ia_newnil ia_pick ia_bin ia_eqb ia_eqs ia_un ia_len ia_lens ia_chk ia_fld ia_fldv ia_idxa ia_idx ia_load ia_store ia_slice ia_slices ia_make ia_alloc ia_box ia_build ia_bslice ia_app ia_b2i ia_i2b ia_i2i ia_same ia_b2s ia_s2b ia_ext ia_mm ia_idxp ia_calld ia_mkfn ia_i2r ia_r2s ia_call pt_nil pt_cons mi_nil mi_cons md_bslice md_mv md_newnil md_pick md_bin md_eqb md_un md_len md_lens md_fld md_fldv md_idxa md_idx md_load md_store md_slice md_slices md_make md_alloc md_box md_build md_app md_conv md_ext md_call md_calld md_callg md_mkfn md_mm md_idxp md_eqn md_eqs md_chk tg_bslice tg_mv tg_newnil tg_pick tg_bin tg_eqb tg_un tg_len tg_lens tg_fld tg_fldv tg_idxa tg_idx tg_load tg_store tg_slice tg_slices tg_make tg_alloc tg_box tg_build tg_app tg_conv tg_ext tg_call tg_calld tg_callg tg_mkfn tg_mm tg_idxp tg_eqn tg_eqs tg_chk rp_eq ro_eq ifP_t ifP_f np_def ng1_nil ng2_nil ng_gate ng_gen tgA_t tgA_0 tgA_1 tgA_2 aC_nil aC_c aC_t rS_def nb_def tv_b2i tv_i2b tv_i2i tv_s2b tv_b2s tv_same tv_i2r tv_r2s tv_i2q tv_q2i tv_q2q nxZ_some nxZ_none rz_nil rz_gen nxP_some nxP_none rq_nil rq_gen rq_gate nxR_some nxR_none ru_nil ru_gen ru_gate pl_none pl_some gt_nil gt_t gt_c di_some di_none an_nil an_cons nxG_some nxG_none rg_nil rg_gen rg_gate oldO_some oa_nil oa_i oa_y oa_b oa_s oa_st oa_sl oa_own oa_oad oa_nl al_nil al_cons al_i al_y al_b al_s al_st al_sl nxF_some nxF_none rf_nil rf_gen rf_gate hk_newnil hk_make hk_alloc hk_box hk_build hk_bslice hk_call hk_store hk_app hk_appn em_cel mm_cel ok_cel ov_cel so_cel il_cel oi_cel oj_cel ol_cel nm_cel hk_appc ef_bslice5 ef_app_cel ks_shut shu_own shc_none shc_cel cl_nil cl_cons ai_nil ai_cons il_i il_y il_b il_s il_st il_sl il_own il_adr il_oad il_ref il_fr il_tup il_nil il_np il_und il_dead ol_adr ol_b ol_dead ol_e ol_fn ol_fr ol_i ol_nil ol_np ol_oad ol_own ol_q ol_r ol_ref ol_s ol_sl ol_st ol_tup ol_und ol_w ol_y oj_e oj_i oj_y oj_b oj_s oj_st oj_sl oj_own oj_adr oj_oad oj_ref oj_fr oj_tup oj_nil oj_np oj_und oj_dead oj_w oj_q oj_r oj_fn oi_e oi_i oi_y oi_b oi_s oi_st oi_sl oi_own oi_adr oi_oad oi_ref oi_fr oi_tup oi_nil oi_np oi_und oi_dead as_nil as_cons ao_nil ao_cons av_i av_y av_b av_s av_st av_sl av_own av_adr av_oad av_ref av_fr av_tup av_nil av_np av_und av_dead pro_cons ghK_some ks_promote ks_freeze frz_own ks_rename ren_own ks_cell cel_own dropO adoptP newP wholeP cutP allOldL ex_skip ex_ret ex_exit ks_region ks_seq ks_cut ks_cond ks_block seqK_n seqK_e seqK_r regK_some condK_t condK_f blkK_n blkK_r blkK_e endK_n endK_r rr_false rr_true rd_free mo_nil mo_cons drK_some drK_none nxW_some nxW_none rw_nil rw_gen rw_gate ak_newnil ak_make ak_alloc ak_box ak_build ak_bslice ak_call ak_store ak_app iw_mm iw_eqn iw_idxp ef_callg cgK_some gv_e gv_own gv_i gv_sl gv_st gv_b gv_nil gvK_some gvO_some iw_callg ia_callg ak_callg hk_callg is_mv is_newnil is_pick is_bin is_eqb is_eqs is_un is_len is_lens is_chk is_fld is_fldv is_idxa is_idx is_load is_slice is_slices is_make is_alloc is_box is_build is_bslice is_app is_conv is_ext is_call is_calld is_callg is_mkfn is_mm is_idxp is_eqn is_store rt_nil rt_gen rt_gate nxT_some nxT_none ef_eqn_nil ef_eqn_sl ef_eqn_own ia_eqn ef_mmx ef_mmn ef_idxp nxD_some nxD_none ov_i ov_y ov_b ov_s ov_st ov_sl ov_own ov_oad ov_adr ov_nil ov_np ov_und ov_dead ov_tup oldN_some oldN_nil oldN_none so_none so_tup DV.noM so_i so_y so_b so_s so_st so_sl so_adr so_nil so_np so_und so_dead anyM_nil anyM_t anyM_c so_own so_oad rd_nil rd_gen rd_mv rd_gate iw_mv iw_newnil iw_pick iw_bin iw_eqb iw_eqs iw_un iw_len iw_lens iw_chk iw_fld iw_fldv iw_idxa iw_idx iw_load iw_store iw_slice iw_slices iw_make iw_alloc iw_box iw_build iw_bslice iw_app iw_b2i iw_i2b iw_i2i iw_same iw_b2s iw_s2b iw_ext iw_call nm_i nm_y nm_b nm_s nm_st nm_sl nm_own nm_oad nm_adr nm_nil nm_np nm_und nm_dead nm_tup rl_nil rl_gate rl_mv rl_gen opv_t opv_c nx_some nx_none gate_tt gate_tf gate_ft gate_ff gate_u fr_ap em_nil em_i em_y em_b em_s em_st em_sl em_own em_adr em_oad em_ref em_nl em_np em_und em_dead em_tup0 em_tup_i em_tup_b em_tup_s em_tup_sl em_tup_st em_tup_np em_tup_own em_tup_oad mm_i mm_y mm_b mm_s mm_st mm_sl mm_own mm_oad mm_adr mm_nil mm_np mm_und mm_dead ef_mv ef_newnil ef_pickt ef_pickf ef_bin ef_eqb ef_eqs ef_un ef_lens ef_len_sl ef_len_own ef_len_nil ef_chk_adr ef_chk_oad ef_fld_adr ef_fld_oad ef_fldv idxR_some ef_idxa_sl ef_idxa_own ef_idx ef_load_adr_st ef_load_adr_i ef_load_adr_y ef_load_adr_b ef_load_adr_s ef_load_adr_sl atN_nil atN_zero atN_succ ef_load_oad ef_store ef_slice ef_slices ef_make ef_alloc ef_box ef_build ef_bslice ef_app_own ef_app_nil ef_b2i ef_i2b ef_i2i ef_same ef_ext ret1 ret2_some calL_some ef_call retC_i retC_y retC_b retC_s retC_st retC_sl retC_np retC_fr retC_ref retC_tup rk_nil rk_i rk_y rk_b rk_s rk_st rk_sl rk_own rk_oad rk_nl ok_nil ok_i ok_y ok_b ok_s ok_st ok_sl ok_own ok_oad ok_nl lo_nil lo_i lo_y lo_b lo_s lo_st lo_sl lo_own lo_oad lo_nl pr_nil pr_i pr_y pr_b pr_s pr_st pr_sl pr_own pr_nl pr_oad nr_i nr_y nr_b nr_s nr_st nr_sl nr_fr nr_np nr_tup ng_i ng_b ng_s ng_fr ng_nil resV effP_eff binD bi_add bi_sub bi_mul bi_quo bi_rem bi_eql bi_neq bi_lss bi_leq bi_gtr bi_geq bi_shl bi_shr bi_and bi_or bi_xor bi_andNot binY binS unD look put putD LS.get LS.drop killE sweep lookO putO dropO enter leave giveBackL giveBack outs lendArgs lendArg newOuts takeIn takeInL lendL DV.lend adoptL DV.adopt elems apartKs part DV.cells unpart settle settleL over mkId szId fillP fillE tk_e2 tk_i tk_y lt_e2 lt_i lt_y lend_rep al_e2 al_is al_ys al_rep al_app lend_app adopt_app new_app lend_e2 lend_i lend_y adopt_e2 adopt_i adopt_y new_e2 new_i allNewL DV.allNew bounds sliceD sliceS em_w em_q em_r em_fn em_tup_w em_tup_q em_tup_r mm_w mm_q mm_r mm_fn ef_load_adr_w ef_load_adr_q ef_load_adr_r retC_w retC_q retC_r rk_w rk_q rk_r rk_fn ok_w ok_q ok_r ok_fn lo_w lo_q lo_r lo_fn pr_w pr_q pr_r pr_fn nr_w nr_q nr_r ng_w ng_q ng_r oa_w oa_q oa_r oa_fn al_w al_q al_r al_fn ov_w ov_q ov_r ov_fn so_w so_q so_r so_fn il_w il_q il_r il_fn oi_w oi_q oi_r oi_fn av_w av_q av_r av_fn nm_w nm_q nm_r nm_fn ef_i2r ef_r2s ef_b2s bs_some ys_nil ys_cons ys_map ef_mkfn ef_mkbd ef_idxp_adr ef_idxp_q ef_calld_nil ef_calld_adr ef_calld_bd DV.capB capsOk DV.cell List.all_cons List.all_nil rk_own_t lo_own_t lk_f lk_t pr_own_t mutB ak_calld hk_calld iw_calld iw_mkfn iw_i2r iw_r2s bw_and bw_or bw_xor bw_andNot bw_eql bw_neq sw_shl sw_shr sq_shl gEnv_nil rk_adr ok_adr lo_adr pr_adr oa_adr capL capArg DV.cap ak_mkfn hk_mkfn hk_mkbd ef_callm gf_ap ga_nil ga_cons tgv_own gk_e gk_giv gk_i gk_y gk_b gk_s gk_w gk_q gk_r gk_fn gk_st gk_sl gk_own gk_oad gk_adr gk_nl gk_np rk_giv ok_giv lo_giv pr_giv oa_giv iw_callm hk_callm ak_callm is_callm ia_callm tg_callm md_callm ef_i2q ef_q2i ef_q2q iw_i2q iw_q2i iw_q2q ia_i2q ia_q2i ia_q2q bq_and bq_add bq_shr sq_shr tgv_nil gk_ref rk_ref ok_ref lo_ref pr_ref oa_ref retC_fn nr_fn ef_load_adr_fn ks_close cls_oad
attribute [local congr] nxM_congr ifP_congr nxP_congr nxZ_congr nxR_congr nxT_congr nxG_congr nxF_congr ghK_congr gate_congr nx_congr nxD_congr runL_congr runD_congr eff_congr calL_congr ret2_congr seqK_congr regK_congr condK_congr endK_congr drK_congr nxW_congr
attribute [local simp ↓] nxM_some rm_nil rm_one rm_gen nxT_some rt_nil rt_gen rt_gate nxZ_some rz_nil rz_gen nxP_some rq_nil rq_gen rq_gate nxR_some ru_nil ru_gen ru_gate nxG_some rg_nil rg_gen rg_gate nxF_some rf_nil rf_gen rf_gate ks_promote ks_freeze frz_own ks_rename ks_cell ghK_some gate_tt gate_tf gate_ft gate_ff gate_u nx_some nxD_some rl_nil rl_mv rl_gen rl_gate rd_nil rd_mv rd_gen rd_gate rd_free rr_false rr_true drK_some drK_none nxW_some rw_nil rw_gen rw_gate ks_region ks_seq ks_cut ks_cond ks_block seqK_n seqK_e seqK_r regK_some condK_t condK_f blkK_n blkK_r endK_n endK_r calL_some ret2_some opv_t opv_c
section
theorem c_impl_isWithin (a b c : Int) : call lf n_impl_isWithin [.i a,.i b,.i c] = some (.b (decide (b ≤ a ∧ a ≤ c)),[]) := by
 rw [call_k lf n_impl_isWithin _ (F := F_impl_isWithin) rfl rfl]
 by_cases h : b ≤ a <;> simp [F_impl_isWithin,h]
theorem c_spec_l1In (a b c : Int) : call lf n_spec_l1In [.i a,.i b,.i c] = some (.b (decide (b ≤ a ∧ a ≤ c)),[]) := by
 rw [call_k lf n_spec_l1In _ (F := F_spec_l1In) rfl rfl]
 by_cases h : b ≤ a <;> simp [F_spec_l1In,h]
theorem c_impl_manyOk (a : Int) : call lf n_impl_manyOk [.i a] = some (.b (nOk a),[]) := by
 rw [call_k lf n_impl_manyOk _ (F := F_impl_manyOk) rfl rfl]
 simp [F_impl_manyOk,c_impl_isWithin,nOk]

theorem nOk_iff {a : Int} : nOk a = true ↔ 1 ≤ a ∧ a ≤ 5 := by simp [nOk]
theorem tsOk_iff {ts : List T} : tsOk ts = true ↔ (1 ≤ (ts.length : Int) ∧ (ts.length : Int) ≤ 5) ∧ ts.all tOk = true := by
 rw [tsOk,Bool.and_eq_true,nOk_iff]
end
section
theorem p2 {ts : List T} (h : tsOk ts = true) : 1 ≤ (2 : Nat) ^ ts.length ∧ (2 : Nat) ^ ts.length ≤ 32 ∧ ((2 ^ ts.length : Nat) : Int) = 2 ^ ts.length := by
 have h' := tsOk_iff.1 h
 have a : (2 : Nat) ^ ts.length ≤ 2 ^ 5 := Nat.pow_le_pow_right (by omega) (by omega)
 exact ⟨Nat.pow_pos (by omega),by omega,by simp⟩
theorem at_e2 {ts : List T} {i : Nat} (hi : i < ts.length) : ∃ t,ts[i]? = some t ∧ t ∈ ts ∧ atI (ts.map e2) i = some (.st [.i t.1,.i t.2]) ∧ ts.take (i + 1) = ts.take i ++ [t] := by
 refine ⟨ts[i],List.getElem?_eq_getElem hi,List.getElem_mem hi,?_,List.take_succ_eq_append_getElem hi⟩
 simp [atI,hi,e2]
end
section
def ci (ts : List Int) (i : Nat) : List DV := (ts.take i).map .i ++ List.replicate (ts.length - i) (.i 0)
theorem ci_len {ts : List Int} {i : Nat} (hi : i ≤ ts.length) : (ci ts i).length = ts.length := by simp [ci]; omega
theorem ci_set {ts : List Int} {i : Nat} {t : Int} (hi : i < ts.length) (h : ts.take (i + 1) = ts.take i ++ [t]) : (ci ts i).set i (.i t) = ci ts (i + 1) := by
 have : ((ts.take i).map DV.i).length = i := by simp; omega
 unfold ci
 rw [List.set_append_right _ _ (by omega),this,Nat.sub_self,h,show ts.length - i = (ts.length - (i + 1)) + 1 by omega,List.replicate_succ,List.set_cons_zero,List.map_append,List.append_assoc]
 rfl
theorem ci_get {ts : List Int} {i : Nat} (hi : i < ts.length) : atN (ci ts i) i = some (.i 0) := by
 show (ci ts i)[i]? = _
 have : ((ts.take i).map DV.i).length = i := by simp; omega
 unfold ci
 rw [List.getElem?_append_right (by omega),this,Nat.sub_self,List.getElem?_replicate]
 simp; omega
theorem ci_zero (ts : List Int) : ci ts 0 = List.replicate ts.length (.i 0) := by simp [ci]
theorem ci_all (ts : List Int) : ci ts ts.length = ts.map .i := by simp [ci]
theorem at_i {ks : List Int} {i : Nat} (hi : i < ks.length) : ∃ k,ks[i]? = some k ∧ k ∈ ks ∧ atI (ks.map .i) i = some (.i k) ∧ ks.take (i + 1) = ks.take i ++ [k] := by
 refine ⟨ks[i],List.getElem?_eq_getElem hi,List.getElem_mem hi,?_,List.take_succ_eq_append_getElem hi⟩
 simp [atI,hi]
theorem c_toIntS (ts : List Int) (hb : (ts.length : Int) ≤ 1048576) : call lf n_laws_toIntS [.sl 0 (ts.map .i)] = some (.fr 1 (ts.map .i),[]) := by
 rw [call_k lf n_laws_toIntS _ (F := F_laws_toIntS) rfl rfl]
 have L : ex lf F_laws_toIntS_W0 ⟨[(0,.sl 0 (ts.map .i)),(3,.own 3592 ts.length 0 ts.length),(4,.i 0)],[(3592,ci ts 0)]⟩ =
   some (.exit 0,⟨[(0,.sl 0 (ts.map .i)),(3,.own 3592 ts.length 0 ts.length),(4,.i ts.length)],[(3592,ci ts ts.length)]⟩) := by
  refine loop_count ts.length (fun i => ⟨[(0,.sl 0 (ts.map .i)),(3,.own 3592 ts.length 0 ts.length),(4,.i i)],[(3592,ci ts i)]⟩) (fun i hi => ?_) ?_ (by simp)
  ·obtain ⟨t,q1,q2,q3,q4⟩ := at_i hi
   have w1 : wr ((i : Int) + 1) = (i : Int) + 1 := wr_id (by omega) (by omega)
   have c1 := ci_len (ts := ts) (i := i) (by omega)
   have c2 := ci_get hi
   have c3 := ci_set hi q4
   simp [F_laws_toIntS_L0,hi,q3,w1,c1,c2,c3]
  ·simp [F_laws_toIntS_L0]
 have b1 : (ts.length : Int) ≤ bound := by unfold bound; omega
 rw [ci_zero,ci_all] at L
 simp [F_laws_toIntS,b1,L]
theorem c_eqIntS_self (aS : List Int) (ha : (aS.length : Int) ≤ 1048576) : call lf n_laws_eqIntS [.sl 0 (aS.map .i),.sl 0 (aS.map .i)] = some (.b true,[]) := by
 rw [call_k lf n_laws_eqIntS _ (F := F_laws_eqIntS) rfl rfl]
 have L : ex lf F_laws_eqIntS_W0 ⟨[(0,.sl 0 (aS.map .i)),(1,.sl 0 (aS.map .i)),(5,.i 0)],[]⟩ = some (.exit 0,⟨[(0,.sl 0 (aS.map .i)),(1,.sl 0 (aS.map .i)),(5,.i aS.length)],[]⟩) := by
  refine loop_count aS.length (fun i => ⟨[(0,.sl 0 (aS.map .i)),(1,.sl 0 (aS.map .i)),(5,.i i)],[]⟩) (fun i hi => ?_) ?_ (by simp)
  ·obtain ⟨t,q1,q2,q3,q4⟩ := at_i hi
   have w1 : wr ((i : Int) + 1) = (i : Int) + 1 := wr_id (by omega) (by omega)
   simp [F_laws_eqIntS_L0,hi,q3,w1]
  ·simp [F_laws_eqIntS_L0]
 simp [F_laws_eqIntS,L]
end
section
theorem c_eqMark (t u : T) : call lf n_laws_eqMark [e2 t,e2 u] = some (.b (t.1 == u.1 && t.2 == u.2),[]) := by
 rw [call_k lf n_laws_eqMark _ (F := F_laws_eqMark) rfl rfl]
 by_cases h1 : t.1 = u.1
 ·by_cases h2 : t.2 = u.2
  ·simp [F_laws_eqMark,e2,h1,h2]
  ·have h3 : (t.2 != u.2) = true := bne_iff_ne.2 h2
   have h4 : (t.2 == u.2) = false := beq_eq_false_iff_ne.2 h2
   simp [F_laws_eqMark,e2,h1,h3,h4]
 ·have h3 : (t.1 != u.1) = true := bne_iff_ne.2 h1
  have h4 : (t.1 == u.1) = false := beq_eq_false_iff_ne.2 h1
  simp [F_laws_eqMark,e2,h3,h4]
theorem c_eqMarkS_self (aS : List T) (ha : (aS.length : Int) ≤ 1048576) : call lf n_laws_eqMarkS [.sl 0 (aS.map e2),.sl 0 (aS.map e2)] = some (.b true,[]) := by
 rw [call_k lf n_laws_eqMarkS _ (F := F_laws_eqMarkS) rfl rfl]
 have L : ex lf F_laws_eqMarkS_W0 ⟨[(0,.sl 0 (aS.map e2)),(1,.sl 0 (aS.map e2)),(5,.i 0)],[]⟩ = some (.exit 0,⟨[(0,.sl 0 (aS.map e2)),(1,.sl 0 (aS.map e2)),(5,.i aS.length)],[]⟩) := by
  refine loop_count aS.length (fun i => ⟨[(0,.sl 0 (aS.map e2)),(1,.sl 0 (aS.map e2)),(5,.i i)],[]⟩) (fun i hi => ?_) ?_ (by simp)
  ·obtain ⟨t,q1,q2,q3,q4⟩ := at_e2 hi
   have w1 : wr ((i : Int) + 1) = (i : Int) + 1 := wr_id (by omega) (by omega)
   have C := c_eqMark t t
   simp only [e2,beq_self_eq_true,Bool.and_self] at C
   simp [F_laws_eqMarkS_L0,hi,q3,w1,C]
  ·simp [F_laws_eqMarkS_L0]
 simp [F_laws_eqMarkS,L]
end
section
theorem mid_at {A B : List DV} {i : Nat} (h : A.length = i) (x : DV) : atN (A ++ x :: B) i = some x := by
 show (A ++ x :: B)[i]? = _
 rw [List.getElem?_append_right (by omega),h]; simp
theorem mid_set {A B : List DV} {i : Nat} (h : A.length = i) (x y : DV) : (A ++ x :: B).set i y = A ++ y :: B := by
 rw [List.set_append_right _ _ (by omega),h]; simp
theorem split_at {es : List DV} {i : Nat} (hi : i < es.length) : es.drop i = es[i] :: es.drop (i + 1) := List.drop_eq_getElem_cons hi
/-- the marks from k on -/
def mk1 (k : Int) (n : Nat) : List DV := (List.range n).map fun (j : Nat) => DV.i (k + (j : Int))
theorem mk1_len (k : Int) (n : Nat) : (mk1 k n).length = n := by simp [mk1]
theorem mk1_succ (k : Int) (n : Nat) : mk1 k (n + 1) = mk1 k n ++ [.i (k + n)] := by simp [mk1,List.range_succ]
def mk2 (k : Int) (n : Nat) : List DV := (List.range n).map fun (j : Nat) => DV.st [.i (k + 2 * (j : Int)),.i (k + 2 * (j : Int) + 1)]
theorem mk2_len (k : Int) (n : Nat) : (mk2 k n).length = n := by simp [mk2]
theorem mk2_succ (k : Int) (n : Nat) : mk2 k (n + 1) = mk2 k n ++ [.st [.i (k + 2 * n),.i (k + 2 * n + 1)]] := by simp [mk2,List.range_succ]
set_option maxHeartbeats 4000000 in
theorem c_markMarkS (xs : List T) (k : Int) (k0 : 0 ≤ k) (k1 : k ≤ 1000000000) (hl : xs.length ≤ 1048576) : call lf n_laws_markMarkS [.fr 2 (xs.map e2),.i k] = some (.i (k + 2 * xs.length),[.fr 2 (mk2 k xs.length)]) := by
 rw [call_k lf n_laws_markMarkS _ (F := F_laws_markMarkS) rfl rfl]
 have L := loop_count (lf := lf) (L := F_laws_markMarkS_L0) xs.length (fun i => ⟨[(0,.own 23 xs.length 0 xs.length),(1,.i (k + 2 * i)),(5,.i i)],[(23,mk2 k i ++ (xs.map e2).drop i)]⟩) (x := .exit 0) (R := ⟨[(0,.own 23 xs.length 0 xs.length),(1,.i (k + 2 * xs.length)),(5,.i xs.length)],[(23,mk2 k xs.length ++ (xs.map e2).drop xs.length)]⟩) (fun i hi => by
  have w1 : wr ((i : Int) + 1) = (i : Int) + 1 := wr_id (by omega) (by omega)
  have w2 : wr (k + 2 * i + 1) = k + 2 * i + 1 := wr_id (by omega) (by omega)
  have w3 : wr (k + 2 * i + 1 + 1) = k + 2 * (i + 1 : Nat) := by rw [wr_id (by omega) (by omega)]; omega
  have hi' : (i : Int) < xs.length := by omega
  have e := split_at (es := xs.map e2) (i := i) (by simpa using hi)
  rw [List.getElem_map] at e
  rw [mk2_succ,e]
  have hA := mk2_len k i
  have lB : (List.drop (i + 1) (xs.map e2)).length = xs.length - (i + 1) := by simp
  generalize xs[i] = x at *
  generalize List.drop (i + 1) (xs.map e2) = B at *
  generalize mk2 k i = A at *
  have q1 := mid_at (B := B) hA
  have q2 := mid_set (B := B) hA
  have q3 : ∀ x : DV,(A ++ x :: B).length = xs.length := fun x => by simp [hA,lB]; omega
  rw [show A ++ [DV.st [DV.i (k + 2 * ↑i),DV.i (k + 2 * ↑i + 1)]] ++ B = A ++ DV.st [DV.i (k + 2 * ↑i),DV.i (k + 2 * ↑i + 1)] :: B by simp]
  have q4 : ∀ a b : DV,1 ≤ [a,b].length := fun a b => by simp
  have q5 : ∀ a b : DV,2 ≤ [a,b].length := fun a b => by simp
  simp [F_laws_markMarkS_L0,e2,hi,hi',w1,w2,w3,q1,q2,q3,q4,q5,-List.length_append,-List.length_cons]) (by
  have lm := mk2_len k xs.length
  simp [F_laws_markMarkS_L0,lm]) (by simp)
 have z : mk2 k 0 ++ (xs.map e2).drop 0 = xs.map e2 := by simp [mk2]
 rw [z] at L
 have zn : mk2 k xs.length ++ (xs.map e2).drop xs.length = mk2 k xs.length := by simp
 rw [zn] at L
 have L' : ex lf F_laws_markMarkS_W0 ⟨[(0,.own 23 xs.length 0 xs.length),(1,.i k),(5,.i 0)],[(23,xs.map e2)]⟩ = some (.exit 0,⟨[(0,.own 23 xs.length 0 xs.length),(1,.i (k + 2 * xs.length)),(5,.i xs.length)],[(23,mk2 k xs.length)]⟩) := by
  have := L
  simp only [Int.natCast_zero,Int.mul_zero,Int.add_zero] at this
  exact this
 have lm := mk2_len k xs.length
 simp [F_laws_markMarkS,L',lm]
set_option maxHeartbeats 4000000 in
theorem c_heldMarkS (n : Nat) (k : Int) (k0 : 0 ≤ k) (k1 : k ≤ 1000000000) (hl : n ≤ 1048576) : call lf n_laws_heldMarkS [.sl 0 (mk2 k n),.i k] = some (.i (k + 2 * n),[]) := by
 rw [call_k lf n_laws_heldMarkS _ (F := F_laws_heldMarkS) rfl rfl]
 have lm := mk2_len k n
 have A : ∀ i,i < n → atI (mk2 k n) (i : Int) = some (.st [.i (k + 2 * i),.i (k + 2 * i + 1)]) := fun i hi => by simp [atI,mk2,hi]
 generalize mk2 k n = es at *
 have L := loop_count (lf := lf) (L := F_laws_heldMarkS_L0) n (fun i => ⟨[(0,.sl 0 es),(1,.i (k + 2 * i)),(5,.i i)],[]⟩) (x := .exit 0) (R := ⟨[(0,.sl 0 es),(1,.i (k + 2 * n)),(5,.i n)],[]⟩) (fun i hi => by
  have w1 : wr ((i : Int) + 1) = (i : Int) + 1 := wr_id (by omega) (by omega)
  have w2 : wr (k + 2 * i + 1) = k + 2 * i + 1 := wr_id (by omega) (by omega)
  have w3 : wr (k + 2 * i + 1 + 1) = k + 2 * (i + 1 : Nat) := by rw [wr_id (by omega) (by omega)]; omega
  have hi' : (i : Int) < n := by omega
  have q := A i hi
  simp [F_laws_heldMarkS_L0,hi,hi',w1,w2,w3,lm,q]) (by
  simp [F_laws_heldMarkS_L0,lm]) (by simp)
 have L' : ex lf F_laws_heldMarkS_W0 ⟨[(0,.sl 0 es),(1,.i k),(5,.i 0)],[]⟩ = some (.exit 0,⟨[(0,.sl 0 es),(1,.i (k + 2 * n)),(5,.i n)],[]⟩) := by
  have := L
  simp only [Int.natCast_zero,Int.mul_zero,Int.add_zero] at this
  exact this
 simp [F_laws_heldMarkS,L']
end
section
/-- a mark read with p parts before it -/
def mkS (m p : Int) (t : T) : Option Int :=
 if t.1 = 0 then (if 0 ≤ t.2 ∧ t.2 < m then some (p + 1) else none)
 else if t.1 = 1 then (if t.2 = 0 ∧ 1 ≤ p then some p else none)
 else if t.1 = 2 ∨ t.1 = 3 then (if t.2 = 0 ∧ 2 ≤ p then some (p - 1) else none)
 else none
def runM (m : Int) : Int → List T → Option Int
 | p,[] => some p
 | p,t :: r => match mkS m p t with
  | some q => runM m q r
  | none => none
end
section
inductive Tm where
 | tst (a : Nat)
 | neg (x : Tm)
 | and (x y : Tm)
 | or (x y : Tm)
def ev (s : Nat) : Tm → Bool
 | .tst a => s.testBit a
 | .neg x => !ev s x
 | .and x y => ev s x && ev s y
 | .or x y => ev s x || ev s y
/-- how many parts a mark takes -/
def taken (k : Int) : Nat := if k = 0 then 0 else if k = 1 then 1 else 2
def stepG {P : Type} (mk : T → List P → P) (st : List P) (t : T) : List P := st.take (st.length - taken t.1) ++ [mk t (st.drop (st.length - taken t.1))]
def yesW (a : Nat) : BitVec 32 := match a with
 | 0 => 2863311530#32
 | 1 => 3435973836#32
 | 2 => 4042322160#32
 | 3 => 4278255360#32
 | _ => 4294901760#32
def mkW (t : T) (ps : List (BitVec 32)) : BitVec 32 :=
 if t.1 = 0 then yesW t.2.toNat else if t.1 = 1 then ~~~(ps.getD 0 0) else if t.1 = 2 then ps.getD 0 0 &&& ps.getD 1 0 else ps.getD 0 0 ||| ps.getD 1 0
def tsW (ts : List T) : BitVec 32 := (ts.foldl (stepG mkW) []).headD 0
/-- the value of a term in a state -/
def tv (ts : List T) (s : Nat) : Bool := (tsW ts).getLsbD s
end
section
def hs (bs : List Nat) (p : Int) : Int := (bs.getD (p.tmod bs.length).toNat 0 : Nat) * 131 + (bs.getD ((p * 7 + 3).tmod bs.length).toNat 0 : Nat) * 1117 + p * 29 + p.tdiv bs.length * 53
theorem byte_lt {bs : List Nat} (hb : ∀ y ∈ bs,y < 256) (i : Nat) : bs.getD i 0 < 256 := by
 by_cases h : i < bs.length
 ·have : bs.getD i 0 = bs[i] := by simp [List.getD,h]
  rw [this]
  exact hb _ (List.getElem_mem h)
 ·have : bs.getD i 0 = 0 := by simp [List.getD,List.getElem?_eq_none (by omega : bs.length ≤ i)]
  omega
end
section
theorem cells_st (cs : List DV) : (DV.st cs).cells = cs := rfl
theorem cells_sl (p : Nat) (es : List DV) : (DV.sl p es).cells = [DV.sl p es] := rfl
theorem cells_i (n : Int) : (DV.i n).cells = [DV.i n] := rfl
theorem cells_y (n : Nat) : (DV.y n).cells = [DV.y n] := rfl
theorem cells_b (n : Bool) : (DV.b n).cells = [DV.b n] := rfl
theorem cells_s (n : List UInt8) : (DV.s n).cells = [DV.s n] := rfl
attribute [-simp] DV.cells
attribute [local simp] cells_st cells_sl cells_i cells_y cells_b cells_s
def row (t : List T) : DV := .sl 1 (t.map e2)
theorem flat_set (m : T) : ∀ {ps : List (List T)} {A : Nat} {t : List T},ps[A]? = some t → (ps.set A (t ++ [m])).flatten.length = ps.flatten.length + 1
 | [],_,_,h => by simp at h
 | x :: ps,0,t,h => by simp at h; subst h; simp; omega
 | x :: ps,A + 1,t,h => by
  simp only [List.getElem?_cons_succ] at h
  have := flat_set m h
  simp at this ⊢
  omega
theorem flat_len : ∀ {ps : List (List T)} {A : Nat} {t : List T},ps[A]? = some t → t.length ≤ ps.flatten.length
 | [],_,_,h => by simp at h
 | x :: ps,0,t,h => by simp at h; subst h; simp
 | x :: ps,A + 1,t,h => by
  simp only [List.getElem?_cons_succ] at h
  have := flat_len h
  simp only [List.flatten_cons,List.length_append]; omega
end
section
attribute [-simp] DV.cells
attribute [local simp] cells_st cells_sl cells_i cells_y cells_b cells_s
theorem cells_w (x : BitVec 32) : (DV.w x).cells = [DV.w x] := rfl
attribute [local simp] cells_w
end
section
attribute [-simp] DV.cells
attribute [local simp] cells_st cells_sl cells_i cells_y cells_b cells_s cells_w
attribute [-simp] sliceD
def bI (b : Bool) : Int := if b then 1 else 0
end
section
attribute [-simp] DV.cells sliceD
attribute [local simp] cells_st cells_sl cells_i cells_y cells_b cells_s cells_w
theorem bit_bI {a s : Nat} (hs : s ≤ 60) : (shrI (a : Int) (s : Int)).tmod 2 = bI (a.testBit s) := by
 rw [shr1 (by omega) (by omega),tmod2 (Int.ediv_nonneg (by omega) (Int.le_of_lt (Int.pow_pos (by omega))))]
 unfold bI
 rw [Nat.testBit_eq_decide_div_mod_eq,Int.toNat_natCast]
 have : (a : Int) / 2 ^ s % 2 = ((a / 2 ^ s % 2 : Nat) : Int) := by simp
 rw [this]
 by_cases h : a / 2 ^ s % 2 = 1
 ·simp [h]
 ·have : a / 2 ^ s % 2 = 0 := by omega
  simp [this]
theorem pow5 {m : Int} (h1 : 1 ≤ m) (h5 : m ≤ 5) : 2 ≤ 2 ^ m.toNat ∧ 2 ^ m.toNat ≤ 32 ∧ ((2 ^ m.toNat : Nat) : Int) = 2 ^ m.toNat := by
 have c : m = 1 ∨ m = 2 ∨ m = 3 ∨ m = 4 ∨ m = 5 := by omega
 rcases c with rfl | rfl | rfl | rfl | rfl <;> decide
end
section
attribute [-simp] DV.cells sliceD
attribute [local simp] cells_st cells_sl cells_i cells_y cells_b cells_s cells_w
/-- 1 if f holds wherever g does below N,0 if nowhere,else -1 -/
def fo (f g : Nat → Bool) (N : Nat) : Int := if allTo (fun s => !g s || f s) N then 1 else if allTo (fun s => !g s || !f s) N then 0 else -1
/-- What the states say that agree. -/
def agB (ks : List Int) (s : Nat) : Bool := ag ks (s : Int)
end
section
attribute [-simp] DV.cells sliceD
attribute [local simp] cells_st cells_sl cells_i cells_y cells_b cells_s cells_w
/-- what is known of a term by what is known of its tests -/
def foT (m : Int) (ts : List T) (ks : List Int) : Int := fo (tv ts) (agB ks) (2 ^ m.toNat)
def told (m : Nat) (st so : Nat) : List Int := (List.range m).map fun k => if so.testBit k then bI (st.testBit k) else -1
theorem bI_eq1 (b : Bool) : (bI b == 1) = b := by cases b <;> rfl
end
section
attribute [-simp] DV.cells sliceD
attribute [local simp] cells_st cells_sl cells_i cells_y cells_b cells_s cells_w
def agW : List Int → Nat → BitVec 32 → BitVec 32
 | [],_,w => w
 | k :: r,i,w => agW r (i + 1) (if k = 0 then w &&& ~~~(yesW i) else if k = 1 then w &&& yesW i else w)
end
section
attribute [-simp] DV.cells sliceD
attribute [local simp] cells_st cells_sl cells_i cells_y cells_b cells_s cells_w
theorem div_bI (a s : Nat) : (a : Int) / 2 ^ s % 2 = bI (a.testBit s) := by
 unfold bI
 rw [Nat.testBit_eq_decide_div_mod_eq]
 have : (a : Int) / 2 ^ s % 2 = ((a / 2 ^ s % 2 : Nat) : Int) := by simp
 rw [this]
 by_cases h : a / 2 ^ s % 2 = 1
 ·simp [h]
 ·have : a / 2 ^ s % 2 = 0 := by omega
  simp [this]
theorem c_impl_hasTest (so k : Nat) (hk : k ≤ 40) : call lf n_impl_hasTest [.i so,.i k] = some (.b (so.testBit k),[]) := by
 rw [call_k lf n_impl_hasTest _ (F := F_impl_hasTest) rfl rfl]
 have ni : ¬ (k : Int) < 0 := by omega
 have e : andI (shrI (so : Int) (k : Int)) 1 = bI (so.testBit k) := by
  rw [bit_and,shr1 (by omega) (by omega),Int.toNat_natCast,div_bI]
 simp [F_impl_hasTest,ni,e,bI_eq1]
end
section
attribute [-simp] DV.cells
attribute [local simp] cells_st cells_sl cells_i cells_y cells_b cells_s cells_w
theorem or_fin : ∀ (s : _root_.Fin 32) (k : _root_.Fin 5),orI (s.val : Int) ((2 : Int) ^ k.val) = ((s.val ||| 2 ^ k.val : Nat) : Int) := by decide +kernel
theorem or_nat {s k : Nat} (hs : s < 32) (hk : k < 5) : orI (s : Int) ((2 : Int) ^ k) = ((s ||| 2 ^ k : Nat) : Int) := or_fin ⟨s,hs⟩ ⟨k,hk⟩
end
section
/-- each of the tests once,from those on that some tests are -/
def orS (m : Int) : Nat → List Int → Bool
 | _,[] => true
 | so,a :: r => decide (0 ≤ a ∧ a < m) && !so.testBit a.toNat && orS m (so ||| 2 ^ a.toNat) r
def orOk (m : Int) (os : List Int) : Bool := nOk m && decide ((os.length : Int) = m) && orS m 0 os
def setO : Nat → List Int → Nat
 | so,[] => so
 | so,a :: r => setO (so ||| 2 ^ a.toNat) r
theorem orS_cons {m : Int} {so : Nat} {a : Int} {r : List Int} : orS m so (a :: r) = true ↔ (0 ≤ a ∧ a < m) ∧ so.testBit a.toNat = false ∧ orS m (so ||| 2 ^ a.toNat) r = true := by
 simp [orS,and_assoc]
theorem orOk_iff {m : Int} {os : List Int} : orOk m os = true ↔ (1 ≤ m ∧ m ≤ 5) ∧ (os.length : Int) = m ∧ orS m 0 os = true := by
 rw [orOk,Bool.and_eq_true,Bool.and_eq_true,nOk_iff,decide_eq_true_eq,and_assoc]
theorem setO_app : ∀ (so : Nat) (p q : List Int),setO so (p ++ q) = setO (setO so p) q
 | _,[],_ => rfl
 | so,a :: r,q => setO_app (so ||| 2 ^ a.toNat) r q
theorem orS_app {m : Int} : ∀ (so : Nat) (p q : List Int),orS m so (p ++ q) = (orS m so p && orS m (setO so p) q)
 | _,[],q => by simp [orS,setO]
 | so,a :: r,q => by simp only [List.cons_append,orS,setO,orS_app (so ||| 2 ^ a.toNat) r q,Bool.and_assoc]
theorem or_bit (so a k : Nat) : (so ||| 2 ^ a).testBit k = (so.testBit k || decide (a = k)) := by
 rw [Nat.testBit_or,Nat.testBit_two_pow]
theorem or_lt2 {m so a : Nat} (h : so < 2 ^ m) (ha : a < m) : so ||| 2 ^ a < 2 ^ m := Nat.or_lt_two_pow h (Nat.pow_lt_pow_right (by omega) ha)
theorem setO_bit : ∀ {os : List Int} {so k : Nat},(∀ o ∈ os,0 ≤ o) → ((setO so os).testBit k = true ↔ so.testBit k = true ∨ (k : Int) ∈ os)
 | [],_,_,_ => by simp [setO]
 | a :: r,so,k,h => by
  have ha := h a (by simp)
  rw [setO,setO_bit (os := r) (fun o ho => h o (by simp [ho])),or_bit]
  simp only [Bool.or_eq_true,decide_eq_true_eq,List.mem_cons]
  have : a.toNat = k ↔ (k : Int) = a := by omega
  rw [this,or_assoc]
/-- how many tests are not among some -/
def uc (so : Nat) : Nat → Nat
 | 0 => 0
 | i + 1 => uc so i + if so.testBit i then 0 else 1
theorem uc_zero : ∀ n,uc 0 n = n
 | 0 => rfl
 | n + 1 => by simp [uc,uc_zero n]
theorem uc_congr {a b : Nat} : ∀ {n},(∀ k,k < n → a.testBit k = b.testBit k) → uc a n = uc b n
 | 0,_ => rfl
 | n + 1,h => by simp only [uc]; rw [uc_congr (fun k hk => h k (by omega)),h n (by omega)]
theorem uc_or {so a : Nat} : ∀ {n},a < n → so.testBit a = false → uc (so ||| 2 ^ a) n + 1 = uc so n
 | 0,h,_ => by omega
 | n + 1,h,hb => by
  simp only [uc]
  by_cases e : a = n
  ·subst e
   rw [uc_congr (a := so ||| 2 ^ a) (b := so) (fun k hk => by rw [or_bit,decide_eq_false (by omega),Bool.or_false]),or_bit,hb]
   simp
  ·have := uc_or (so := so) (a := a) (n := n) (by omega) hb
   rw [or_bit,decide_eq_false e,Bool.or_false]
   omega
theorem uc_all {so : Nat} : ∀ {n},uc so n = 0 → ∀ k,k < n → so.testBit k = true
 | 0,_,k,hk => by omega
 | n + 1,h,k,hk => by
  simp only [uc] at h
  rcases Nat.lt_succ_iff_lt_or_eq.1 hk with q | rfl
  ·exact uc_all (n := n) (by omega) k q
  ·cases hb : so.testBit k with
   | true => rfl
   | false => rw [hb] at h; simp at h
theorem uc_setO {m : Int} (hm : 0 ≤ m) : ∀ {os : List Int} {so : Nat},orS m so os = true → uc (setO so os) m.toNat + os.length = uc so m.toNat
 | [],_,_ => by simp [setO]
 | a :: r,so,h => by
  obtain ⟨h1,h2,h3⟩ := orS_cons.1 h
  have i := uc_setO hm (os := r) h3
  have u := uc_or (so := so) (a := a.toNat) (n := m.toNat) (by omega) h2
  simp only [setO,List.length_cons]; omega
theorem set_all {m : Int} {os : List Int} (h : orOk m os = true) : ∀ k,k < m.toNat → (setO 0 os).testBit k = true := by
 obtain ⟨h1,h2,h3⟩ := orOk_iff.1 h
 have u := uc_setO (by omega) h3
 rw [uc_zero] at u
 exact uc_all (by omega)
end
section
theorem orS_nodup {m : Int} : ∀ {os : List Int} {so : Nat},orS m so os = true ↔ (∀ o ∈ os,(0 ≤ o ∧ o < m) ∧ so.testBit o.toNat = false) ∧ os.Nodup
 | [],so => by simp [orS]
 | a :: r,so => by
  rw [orS_cons,orS_nodup (os := r),List.nodup_cons]
  constructor
  ·rintro ⟨h1,h2,h3,h4⟩
   refine ⟨fun o ho => ?_,fun hm => ?_,h4⟩
   ·rcases List.mem_cons.1 ho with rfl | ho
    ·exact ⟨h1,h2⟩
    ·obtain ⟨q1,q2⟩ := h3 o ho
     rw [or_bit,Bool.or_eq_false_iff] at q2
     exact ⟨q1,q2.1⟩
   ·have q := (h3 a hm).2
    rw [or_bit] at q; simp at q
  ·rintro ⟨h1,h2,h3⟩
   obtain ⟨a1,a2⟩ := h1 a (by simp)
   refine ⟨a1,a2,fun o ho => ?_,h3⟩
   obtain ⟨q1,q2⟩ := h1 o (by simp [ho])
   refine ⟨q1,?_⟩
   rw [or_bit,q2,Bool.false_or,decide_eq_false]
   intro e
   have : a = o := by omega
   exact h2 (this ▸ ho)
def rng (n : Nat) : List Int := (List.range n).map fun (k : Nat) => (k : Int)
theorem mem_rng {n : Nat} {o : Int} : o ∈ rng n ↔ 0 ≤ o ∧ o < n := by
 unfold rng
 rw [List.mem_map]
 constructor
 ·rintro ⟨k,h,rfl⟩; have := List.mem_range.1 h; omega
 ·intro h; exact ⟨o.toNat,List.mem_range.2 (by omega),by omega⟩
theorem orOk_len {m : Int} {os : List Int} (h : orOk m os = true) : (os.length : Int) = m := (orOk_iff.1 h).2.1
end
section
def hkn (m : Nat) (ks : List Int) (so : Nat) : Prop := ∀ k,k < m → (ks[k]? = some (-1) ↔ so.testBit k = false)
def non (m : Nat) : List Int := List.replicate m (-1)
end
section
attribute [-simp] DV.cells sliceD
attribute [local simp] cells_st cells_sl cells_i cells_y cells_b cells_s cells_w
theorem hasTest_i {so : Nat} {a : Int} (h0 : 0 ≤ a) (h5 : a < 5) : call lf n_impl_hasTest [.i so,.i a] = some (.b (so.testBit a.toNat),[]) := by
 have := c_impl_hasTest so a.toNat (by omega)
 rw [Int.toNat_of_nonneg h0] at this
 exact this
theorem or_i {so : Nat} {a : Int} (hs : so < 32) (h0 : 0 ≤ a) (h5 : a < 5) : orI (so : Int) (shlI 1 a) = ((so ||| 2 ^ a.toNat : Nat) : Int) := by
 rw [shl1 h0 (by omega)]
 exact or_nat hs (by omega)
theorem pow_le5 {m : Int} (h : 1 ≤ m ∧ m ≤ 5) : 2 ^ m.toNat ≤ 32 := (pow5 h.1 h.2).2.1
theorem l_impl_OrderOk {m : Int} (hm : 1 ≤ m ∧ m ≤ 5) (n : Int) (hb : n < 1099511627776) (es : List DV) (rest : List Int) : ∀ (k : Int) (so : Nat),so < 2 ^ m.toNat → 0 ≤ k → k + (rest.map DV.i).length = n → es.drop k.toNat = rest.map .i →
  ex lf F_impl_OrderOk_W0 ⟨[(0,.i m),(5,.i so),(17,.sl 0 es),(18,.i n),(19,.i k)],[]⟩ =
  if orS m so rest = true then some (.exit 0,⟨[(0,.i m),(5,.i (setO so rest : Nat)),(17,.sl 0 es),(18,.i n),(19,.i n)],[]⟩) else some (.ret,⟨[(4,.b false)],[]⟩) := by
 have p5 := pow_le5 hm
 induction rest with
 | nil =>
  intro k so hs h0 hn hd
  rw [w_impl_OrderOk_0]
  have hk : k = n := by simpa using hn
  simp [F_impl_OrderOk_L0,hk,orS,setO]
 | cons a rest ih =>
  intro k so hs h0 hn hd
  obtain ⟨q1,q2,q3,q4,q5,q6⟩ := stp h0 hn hb hd
  have w : wr (m - 1) = m - 1 := wr_id (by omega) (by omega)
  rw [w_impl_OrderOk_0]
  by_cases ha : 0 ≤ a ∧ a < m
  ·have e1 : decide (0 ≤ a ∧ a ≤ m - 1) = true := decide_eq_true (by omega)
   have e2 : decide (0 ≤ a ∧ a < m) = true := decide_eq_true ha
   have H := hasTest_i (so := so) ha.1 (by omega)
   have n0 : ¬ a < 0 := by omega
   have o := or_i (so := so) (by omega) ha.1 (by omega : a < 5)
   have ih := ih (k + 1) (so ||| 2 ^ a.toNat) (or_lt2 hs (by omega)) q4 q5 q6
   simp only [orS,e2,Bool.true_and,setO]
   cases hb : so.testBit a.toNat with
   | true =>
    rw [hb] at H
    simp [F_impl_OrderOk_L0,q1,q2,q3,w,c_impl_isWithin,e1,H]
   | false =>
    rw [hb] at H
    simp [F_impl_OrderOk_L0,q1,q2,q3,w,c_impl_isWithin,e1,H,n0,o,ih]
  ·have e1 : decide (0 ≤ a ∧ a ≤ m - 1) = false := decide_eq_false (by omega)
   have e2 : decide (0 ≤ a ∧ a < m) = false := decide_eq_false ha
   simp only [orS,e2,Bool.false_and]
   simp [F_impl_OrderOk_L0,q1,q2,q3,w,c_impl_isWithin,e1]
theorem c_impl_OrderOk (m : Int) (os : List Int) (hb : (os.length : Int) < 1099511627776) : call lf n_impl_OrderOk [.i m,.sl 0 (os.map .i)] = some (.b (orOk m os),[]) := by
 rw [call_k lf n_impl_OrderOk _ (F := F_impl_OrderOk) rfl rfl]
 unfold orOk
 cases h1 : nOk m with
 | false => simp [F_impl_OrderOk,c_impl_manyOk,h1]
 | true =>
  by_cases h2 : (os.length : Int) = m
  ·have L := l_impl_OrderOk (nOk_iff.1 h1) os.length hb (os.map .i) os 0 0 (Nat.pow_pos (by omega)) (by omega) (by simp) (by simp)
   simp only [Int.natCast_zero] at L
   cases h3 : orS m 0 os <;> rw [h3] at L <;> simp at L <;> simp [F_impl_OrderOk,c_impl_manyOk,h1,h2,L,h3] <;> (subst h2; simp [L])
  ·have y : ((os.length : Int) != m) = true := bne_iff_ne.2 h2
   simp [F_impl_OrderOk,c_impl_manyOk,h1,y,h2]
end
section
theorem rng_nodup (n : Nat) : (rng n).Nodup := List.Pairwise.map _ (fun a b h e => h (by omega)) (List.nodup_range (n := n))
theorem or_perm {m : Int} {os : List Int} (h : orOk m os = true) : os.Perm (rng m.toNat) := by
 obtain ⟨g1,g2,g3⟩ := orOk_iff.1 h
 obtain ⟨n1,n2⟩ := orS_nodup.1 g3
 refine (List.perm_ext_iff_of_nodup n2 (rng_nodup _)).2 fun o => ?_
 constructor
 ·intro ho
  exact mem_rng.2 (by have := (n1 o ho).1; omega)
 ·intro ho
  have hr := mem_rng.1 ho
  have := set_all h o.toNat (by omega)
  rw [setO_bit (fun x hx => (n1 x hx).1.1)] at this
  rcases this with q | q
  ·simp at q
  ·rwa [Int.toNat_of_nonneg hr.1] at q
end
section
def fl (s : Int) (i : Nat) : Bool := s / 2 ^ i % 2 == 1
end
section
attribute [-simp] DV.cells sliceD
attribute [local simp] cells_st cells_sl cells_i cells_y cells_b cells_s cells_w
theorem p6 : ∀ {n : Nat},n ≤ 5 → (1 : Int) ≤ 6 ^ n ∧ (6 : Int) ^ n ≤ 7776 := by
 intro n hn
 have : n = 0 ∨ n = 1 ∨ n = 2 ∨ n = 3 ∨ n = 4 ∨ n = 5 := by omega
 rcases this with rfl | rfl | rfl | rfl | rfl | rfl <;> decide
def stW (us : List T) (tab : Nat) (os : List Int) (k : Nat) (ks : List Int) (w a sum sd : Int) : LS :=
 ⟨[(0,.sl 0 (us.map e2)),(1,.i tab),(2,.sl 0 (os.map .i)),(3,.i k),(4,.sl 0 (ks.map .i)),(5,.i w),(13,.i a),(14,.i sum),(15,.i sd)],[]⟩
end
section
inductive PT where
 | stop
 | ask (k : Nat) (no yes : PT)
def fcd (m : Nat) (t : List T) (ks : List Int) : Bool := foT m t ks != -1
end
section
abbrev C3 := Int × Int × Int
/-- a tree with the places of its choices -/
inductive LT where
 | stop
 | ask (p k : Nat) (no yes : LT)
def LT.size : LT → Nat
 | .stop => 0
 | .ask _ _ n y => 1 + n.size + y.size
/-- where one may go on to from a place -/
def nxt (N : Nat) (p : Nat) (a : Int) : Prop := a = -1 ∨ ((p : Int) + 1 ≤ a ∧ a ≤ (N : Int) - 1)
instance (N p : Nat) (a : Int) : Decidable (nxt N p a) := by unfold nxt; infer_instance
/-- the row holds the tree,from a place on -/
def enc (P : List C3) : Int → LT → Prop
 | a,.stop => a = -1
 | a,.ask p k n y => a = (p : Int) ∧ ∃ no ye,P[p]? = some ((k : Int),no,ye) ∧ nxt P.length p no ∧ nxt P.length p ye ∧ enc P no n ∧ enc P ye y
/-- where a row goes on to -/
def rfs : List C3 → List Int
 | [] => []
 | (_,no,ye) :: r => (if no = -1 then [] else [no]) ++ (if ye = -1 then [] else [ye]) ++ rfs r
end
section
def PT.size : PT → Nat
 | .stop => 0
 | .ask _ n y => 1 + n.size + y.size
def rot (P : List C3) : Int := if P = [] then -1 else 0
end
section
attribute [-simp] DV.cells
attribute [local simp] sliceD cells_st cells_sl cells_i cells_y cells_b cells_s cells_w
theorem lend_e3 (P : List C3) : lendL (P.map e3) = P.map e3 := by rw [lendL_map,List.map_map]; rfl
theorem adopt_e3 (o : Bool) (P : List C3) : adoptL o (P.map e3) = P.map e3 := by rw [adoptL_map,List.map_map]; rfl
theorem new_e3 (P : List C3) : allNewL (P.map e3) = true := by rw [allNewL_all,List.all_map,List.all_eq_true]; intro x _; rfl
theorem al_e3 (P : List C3) : allOldL (P.map e3) = true := by rw [allOldL_all,List.all_map,List.all_eq_true]; intro x _; rfl
theorem lt_e3 (n : Nat) (P : List C3) : lendL (List.take n (P.map e3)) = List.take n (P.map e3) := by rw [← List.map_take,lend_e3]
attribute [local simp] lend_e3 adopt_e3 new_e3 al_e3 lt_e3
def C3.nx (c : C3) (b : Bool) : Int := if b then c.2.2 else c.2.1
end
section
def aN : List Int → Nat
 | [] => 0
 | k :: r => (if k = -1 then 0 else 1) + 2 * aN r
def kn : List Int → Nat
 | [] => 0
 | k :: r => (if k = -1 then 0 else 1) + kn r
/-- what agrees,as a number -/
def lfW (ks : List Int) : BitVec 32 := agW ks 0 (4294967295#32)
end
section
abbrev Pts := List (Option (List Int))
/-- one goes on to where it is noted -/
def go3 (m : Nat) (t : List T) (N : Nat) (pts : Pts) (p : Int) (a : Int) (ks : List Int) : Prop :=
 (a = -1 ∧ fcd m t ks = true) ∨ (p + 1 ≤ a ∧ a ≤ (N : Int) - 1 ∧ pts[a.toNat]? = some (some ks))
structure Inv (m : Nat) (t : List T) (P : List C3) (p : Nat) (pts : Pts) : Prop where
 len : pts.length = P.length
 nd : (rfs (P.take p)).Nodup
 rng : ∀ a ∈ rfs (P.take p),1 ≤ a ∧ a < P.length
 iff_ : ∀ a : Nat,a < P.length → (pts[a]? ≠ some none ↔ (a = 0 ∨ (a : Int) ∈ rfs (P.take p)))
 ok : ∀ (a : Nat) (ks : List Int),pts[a]? = some (some ks) → ks.length = m ∧ ks.all kOk = true ∧ fcd m t ks = false
 loc : ∀ q : Nat,q < p → ∃ (ks : List Int) (k no ye : Int),P[q]? = some (k,no,ye) ∧ pts[q]? = some (some ks) ∧ (0 ≤ k ∧ k < m) ∧ ks[k.toNat]? = some (-1) ∧ go3 m t P.length pts q no (ks.set k.toNat 0) ∧ go3 m t P.length pts q ye (ks.set k.toNat 1)
end
section
attribute [-simp] DV.cells
attribute [local simp] sliceD cells_st cells_sl cells_i cells_y cells_b cells_s cells_w
attribute [local simp] lend_e3 adopt_e3 new_e3 al_e3 lt_e3
def pv (m a : Int) (w v : BitVec 32) : DV := .st [.i m,.i a,.w w,.w v]
/-- the point at which so much is known -/
def pD (m : Nat) (t : List T) (ks : List Int) : DV := pv m (aN ks) (lfW ks) (tsW t)
end
section
attribute [-simp] DV.cells
attribute [local simp] sliceD cells_st cells_sl cells_i cells_y cells_b cells_s cells_w
attribute [local simp] lend_e3 adopt_e3 new_e3 al_e3 lt_e3
def e4 (m : Nat) (t : List T) : Option (List Int) → DV
 | some ks => pD m t ks
 | none => pv 0 0 (0#32) (0#32)
end
section
attribute [-simp] DV.cells
attribute [local simp] sliceD cells_st cells_sl cells_i cells_y cells_b cells_s cells_w
attribute [local simp] lend_e3 adopt_e3 new_e3 al_e3 lt_e3
structure Fin (m : Nat) (t : List T) (P : List C3) (L : LT) (pts : Pts) : Prop where
 inv : Inv m t P P.length pts
 start : go3 m t P.length pts (-1) (rot P) (non m)
end
section
/-- the weight of what is known -/
def kp : List T → List Int → Int
 | t :: r,k :: ks => (if k = -1 then 1 else if k = 1 then t.2 else 6 - t.2) * kp r ks
 | _,_ => 1
end
section
/-- groups: all tests,each once -/
structure Gok (m : Nat) (L : List (List Nat)) : Prop where
 lt : ∀ g ∈ L,∀ k ∈ g,k < m
 nd : L.flatten.Nodup
 all : ∀ k,k < m → k ∈ L.flatten
 ne : ∀ g ∈ L,g ≠ []
end
section
theorem gok_len {m : Nat} {L : List (List Nat)} (G : Gok m L) : L.flatten.length = m := by
 have : L.flatten.Perm (List.range m) := (List.perm_ext_iff_of_nodup G.nd List.nodup_range).2 fun k => by
  rw [List.mem_range]
  refine ⟨fun hk => ?_,G.all k⟩
  obtain ⟨g,h1,h2⟩ := List.mem_flatten.1 hk
  exact G.lt g h1 k h2
 rw [this.length_eq,List.length_range]
end
section
def orL : List Nat → List T
 | [] => []
 | k :: r => (0,(k : Int)) :: r.flatMap fun (j : Nat) => [(0,(j : Int)),(3,0)]
def grL : List (List Nat) → List T
 | [] => []
 | g :: R => orL g ++ R.flatMap fun h => orL h ++ [(2,0)]
theorem orL_len {g : List Nat} (h : g ≠ []) : (orL g).length + 1 = 2 * g.length := by
 cases g with
 | nil => exact absurd rfl h
 | cons k r =>
  simp only [orL,List.length_cons]
  clear h
  induction r with
  | nil => rfl
  | cons j r ih => simp only [List.flatMap_cons,List.length_append,List.length_cons,List.length_nil] at ih ⊢; omega
theorem grR_len : ∀ {R : List (List Nat)},(∀ g ∈ R,g ≠ []) → (R.flatMap fun h => orL h ++ [(2,0)]).length = 2 * R.flatten.length
 | [],_ => rfl
 | g :: R,h => by
  have ih := grR_len (R := R) fun y hy => h y (List.mem_cons_of_mem _ hy)
  have := orL_len (h g List.mem_cons_self)
  simp only [List.flatMap_cons,List.length_append,List.flatten_cons,List.length_cons,List.length_nil] at ih ⊢
  omega
theorem grL_len {L : List (List Nat)} (hL : L ≠ []) (h : ∀ g ∈ L,g ≠ []) : (grL L).length + 1 = 2 * L.flatten.length := by
 cases L with
 | nil => exact absurd rfl hL
 | cons g R =>
  have a := orL_len (h g List.mem_cons_self)
  have b := grR_len (R := R) fun y hy => h y (List.mem_cons_of_mem _ hy)
  simp only [grL,List.length_append,List.flatten_cons]
  omega
theorem gok_ne {m : Nat} (hm : 1 ≤ m) {L : List (List Nat)} (G : Gok m L) : L ≠ [] := fun e => by
 have := G.all 0 (by omega)
 rw [e] at this
 cases this
end
section
attribute [-simp] DV.cells
attribute [local simp] sliceD cells_st cells_sl cells_i cells_y cells_b cells_s cells_w
theorem lend_eR (L : List (List Int)) : lendL (L.map eR) = L.map eR := by
 rw [lendL_map,List.map_map]
 apply List.map_congr_left
 intro r _
 simp [eR,DV.lend]
theorem al_eR (L : List (List Int)) : allOldL (L.map eR) = true := by
 rw [allOldL_all,List.all_map,List.all_eq_true]
 intro r _
 simp [eR,DV.allOld]
attribute [local simp] lend_eR al_eR
def gokB (m : Int) (L : List (List Int)) : Bool := L.all (fun r => !r.isEmpty) && orOk m L.flatten
def gAl (m : Int) : Nat → List (List Int) → Bool
 | _,[] => true
 | n,r :: L => decide (1 ≤ (r.length : Int) ∧ (r.length : Int) ≤ m - n) && gAl m (n + r.length) L
theorem gAl_iff {m : Int} : ∀ {L : List (List Int)} {n : Nat},(n : Int) ≤ m → (gAl m n L = true ↔ L.all (fun r => !r.isEmpty) = true ∧ ((n + L.flatten.length : Nat) : Int) ≤ m)
 | [],n,h => by simp [gAl,h]
 | r :: L,n,h => by
  simp only [gAl,Bool.and_eq_true,decide_eq_true_eq,List.all_cons,List.flatten_cons,List.length_append]
  by_cases hr : (r.length : Int) ≤ m - n
  ·rw [gAl_iff (L := L) (n := n + r.length) (by omega)]
   cases r with
   | nil => simp
   | cons a r =>
    simp only [List.isEmpty_cons,Bool.not_false,true_and,List.length_cons] at *
    constructor
    ·rintro ⟨_,h1,h2⟩; exact ⟨h1,by omega⟩
    ·rintro ⟨h1,h2⟩; exact ⟨⟨by omega,by omega⟩,h1,by omega⟩
  ·constructor
   ·rintro ⟨⟨_,h2⟩,_⟩; exact absurd h2 hr
   ·rintro ⟨_,h2⟩; omega
theorem gokB_al {m : Int} (hm : 1 ≤ m ∧ m ≤ 5) (L : List (List Int)) : gokB m L = (gAl m 0 L && orOk m L.flatten) := by
 unfold gokB
 cases h : orOk m L.flatten with
 | false => simp
 | true =>
  have := orOk_len h
  rw [Bool.and_true,Bool.and_true,Bool.eq_iff_iff,gAl_iff (by omega)]
  exact ⟨fun h => ⟨h,by omega⟩,fun h => h.1⟩
def stGk (m : Int) (L : List (List Int)) (acc : List Int) (k : Nat) : LS := ⟨[(0,.i m),(5,.own 2568 acc.length 0 acc.length),(11,.sl 0 (L.map eR)),(12,.i L.length),(13,.i k)],[(2568,acc.map .i)]⟩
theorem l_impl_GroupsOk {m : Int} (hm : 1 ≤ m ∧ m ≤ 5) (A : List (List Int)) (hb : (A.length : Int) < 1099511627776) : ∀ (L : List (List Int)) (k : Nat) (acc : List Int),(acc.length : Int) ≤ m → k + L.length = A.length → A.drop k = L →
  ex lf F_impl_GroupsOk_W0 (stGk m A acc k) = if gAl m acc.length L = true then some (.exit 0,stGk m A (acc ++ L.flatten) A.length) else some (.ret,⟨[(4,.b false)],[]⟩)
 | [],k,acc,ha,hk,hd => by
  have e : k = A.length := by simpa using hk
  subst e
  rw [w_impl_GroupsOk_0]
  simp [stGk,F_impl_GroupsOk_L0,gAl]
 | r :: L,k,acc,ha,hk,hd => by
  simp only [List.length_cons] at hk
  have hlt : (k : Int) < A.length := by omega
  have hd2 : A.drop (k + 1) = L := by rw [← List.drop_drop,hd]; rfl
  have hat : A[k]? = some r := by
   have := congrArg (fun l => l[0]?) hd
   simpa using this
  have at1 : atI (A.map eR) (k : Int) = some (.sl 0 (r.map .i)) := by
   simp only [atI,if_pos (Int.natCast_nonneg k)]
   show (A.map eR)[(k : Int).toNat]? = _
   rw [Int.toNat_natCast,List.getElem?_map,hat]; rfl
  have w1 : wr ((k : Int) + 1) = ((k + 1 : Nat) : Int) := by rw [wr_id (by omega) (by omega)]; omega
  have w2 : wr (m - acc.length) = m - acc.length := wr_id (by omega) (by omega)
  have W := c_impl_isWithin (r.length : Int) 1 (m - acc.length)
  rw [w_impl_GroupsOk_0]
  by_cases hr : 1 ≤ (r.length : Int) ∧ (r.length : Int) ≤ m - acc.length
  ·rw [decide_eq_true hr] at W
   have ih := l_impl_GroupsOk hm A hb L (k + 1) (acc ++ r) (by simp; omega) (by omega) hd2
   have e : gAl m acc.length (r :: L) = gAl m (acc ++ r).length L := by simp only [gAl]; rw [decide_eq_true hr]; simp
   rw [e,List.flatten_cons,← List.append_assoc,← ih]
   have c1 : acc.length + r.length ≤ bound := by unfold bound; omega
   unfold stGk
   simp [F_impl_GroupsOk_L0,hlt,at1,w1,w2,W,c1,-Int.natCast_add]
  ·rw [decide_eq_false hr] at W
   have e : gAl m acc.length (r :: L) = false := by simp only [gAl]; rw [decide_eq_false hr]; rfl
   rw [e]
   unfold stGk
   simp [F_impl_GroupsOk_L0,hlt,at1,w1,w2,W,-Int.natCast_add]
theorem c_impl_GroupsOk (m : Int) (L : List (List Int)) (hb : (L.length : Int) < 1099511627776) : call lf n_impl_GroupsOk [.i m,.sl 0 (L.map eR)] = some (.b (gokB m L),[]) := by
 rw [call_k lf n_impl_GroupsOk _ (F := F_impl_GroupsOk) rfl rfl]
 cases h1 : nOk m with
 | false =>
  have e : gokB m L = false := by unfold gokB orOk; simp [h1]
  simp [F_impl_GroupsOk,c_impl_manyOk,h1,e]
 | true =>
  have hm := nOk_iff.1 h1
  rw [gokB_al hm]
  have I := l_impl_GroupsOk hm L hb L 0 [] (by simp; omega) (by simp) rfl
  unfold stGk at I
  simp only [List.length_nil,List.map_nil,Int.natCast_zero,List.nil_append] at I
  cases h2 : gAl m 0 L with
  | false =>
   rw [h2] at I
   simp at I
   simp [F_impl_GroupsOk,c_impl_manyOk,h1,I]
  | true =>
   rw [h2,if_pos rfl] at I
   have l5 := ((gAl_iff (n := 0) (by omega)).1 h2).2
   have C := c_impl_OrderOk m L.flatten (by omega)
   generalize L.flatten = M at *
   have tk : List.take M.length (M.map DV.i) = M.map .i := List.take_of_length_le (by simp)
   simp [F_impl_GroupsOk,c_impl_manyOk,h1,I,C,tk]
end
section
attribute [-simp] DV.cells
attribute [local simp] sliceD cells_st cells_sl cells_i cells_y cells_b cells_s cells_w
attribute [local simp] lend_eR al_eR
theorem at_eR {A : List (List Int)} {k : Nat} {r : List Int} (h : A[k]? = some r) : atI (A.map eR) (k : Int) = some (.sl 0 (r.map .i)) := by
 simp only [atI,if_pos (Int.natCast_nonneg k)]
 show (A.map eR)[(k : Int).toNat]? = _
 rw [Int.toNat_natCast,List.getElem?_map,h]; rfl
theorem atI_int {r : List Int} {j : Nat} {a : Int} (h : r[j]? = some a) : atI (r.map DV.i) (j : Int) = some (.i a) := by
 simp only [atI,if_pos (Int.natCast_nonneg j)]
 show (r.map DV.i)[(j : Int).toNat]? = _
 rw [Int.toNat_natCast,List.getElem?_map,h]; rfl
theorem drop_cons {α : Type} {A : List α} {k : Nat} {r : α} {L : List α} (h : A.drop k = r :: L) : k < A.length ∧ A[k]? = some r ∧ A.drop (k + 1) = L := by
 have hk : k < A.length := by
  rcases Nat.lt_or_ge k A.length with h1 | h1
  ·exact h1
  ·rw [List.drop_eq_nil_of_le h1] at h; cases h
 refine ⟨hk,?_,by rw [← List.drop_drop,h]; rfl⟩
 have := congrArg (fun l => l[0]?) h
 simpa using this
theorem wr_succ {k : Nat} (h : (k : Int) < 1099511627776) : wr ((k : Int) + 1) = ((k + 1 : Nat) : Int) := by rw [wr_id (by omega) (by omega)]; omega
def stGi (m : Int) (A : List (List Int)) (so n k j : Nat) : LS := ⟨[(0,.i m),(1,.sl 0 (A.map eR)),(5,.i so),(6,.i n),(7,.i k),(8,.i j)],[]⟩
theorem gs_inner (m : Int) (A : List (List Int)) {k : Nat} {R : List Int} (hk : A[k]? = some R) (hkl : (k : Int) < A.length) : ∀ (r : List Int) (j so n : Nat),so < 32 → ((n + r.length : Nat) : Int) < 1099511627776 → (R.length : Int) < 1099511627776 → R.drop j = r → j + r.length = R.length →
  ex lf F_spec_GroupsOk_W1 (stGi m A so n k j) = if orS (min m 5) so r = true then some (.exit 2,stGi m A (setO so r) (n + r.length) k R.length) else some (.ret,⟨[(4,.b false)],[]⟩) := by
 intro r
 induction r with
 | nil =>
  intro j so n hs hn hR hd hj
  have at1 := at_eR hk
  have e : j = R.length := by simpa using hj
  subst e
  rw [w_spec_GroupsOk_1]
  simp [stGi,F_spec_GroupsOk_L1,orS,setO,at1,hkl]
 | cons a r ih0 =>
  intro j so n hs hn hR hd hj
  have at1 := at_eR hk
  obtain ⟨j1,j2,j3⟩ := drop_cons hd
  have j1' : (j : Int) < R.length := by omega
  have at2 := atI_int j2
  simp only [List.length_cons] at hn hj
  have w1 := wr_succ (k := j) (by omega)
  have w2 := wr_succ (k := n) (by omega)
  rw [w_spec_GroupsOk_1]
  by_cases a0 : a < 0
  ·have e2 : decide (0 ≤ a ∧ a < min m 5) = false := decide_eq_false (by omega)
   simp only [orS,e2,Bool.false_and]
   simp [stGi,F_spec_GroupsOk_L1,at1,at2,hkl,j1,j1',a0]
  ·by_cases a1 : m ≤ a
   ·have e2 : decide (0 ≤ a ∧ a < min m 5) = false := decide_eq_false (by omega)
    simp only [orS,e2,Bool.false_and]
    simp [stGi,F_spec_GroupsOk_L1,at1,at2,hkl,j1,j1',a0,a1]
   ·by_cases a5 : 5 ≤ a
    ·have e2 : decide (0 ≤ a ∧ a < min m 5) = false := decide_eq_false (by omega)
     simp only [orS,e2,Bool.false_and]
     simp [stGi,F_spec_GroupsOk_L1,at1,at2,hkl,j1,j1',a0,a1,a5]
    ·have e2 : decide (0 ≤ a ∧ a < min m 5) = true := decide_eq_true (by omega)
     have o := or_i (so := so) (by omega) (by omega : 0 ≤ a) (by omega : a < 5)
     have bb := bit_bI (a := so) (s := a.toNat) (by omega)
     rw [Int.toNat_of_nonneg (by omega)] at bb
     have ih := ih0 (j + 1) (so ||| 2 ^ a.toNat) (n + 1) (or_lt2 (m := 5) hs (by omega)) (by omega) hR j3 (by omega)
     rw [show n + 1 + r.length = n + (r.length + 1) by omega] at ih
     simp only [orS,e2,Bool.true_and,setO,List.length_cons]
     unfold stGi at *
     cases hb : so.testBit a.toNat with
     | true =>
      rw [hb] at bb
      have q : (bI true == 1) = true := rfl
      simp [F_spec_GroupsOk_L1,at1,at2,hkl,j1,j1',a0,a1,a5,bb,q]
     | false =>
      rw [hb] at bb
      have q : (bI false == 1) = false := rfl
      simp [F_spec_GroupsOk_L1,at1,at2,hkl,j1,j1',a0,a1,a5,bb,q,o,w1,w2,ih,-Int.natCast_add]
def gSp (m : Int) : Nat → List (List Int) → Bool
 | _,[] => true
 | so,r :: L => !r.isEmpty && (orS m so r && gSp m (setO so r) L)
theorem gSp_eq (m : Int) : ∀ (L : List (List Int)) (so : Nat),gSp m so L = (L.all (fun r => !r.isEmpty) && orS m so L.flatten)
 | [],so => by simp [gSp,orS]
 | r :: L,so => by
  simp only [gSp,List.all_cons,List.flatten_cons,orS_app,gSp_eq m L]
  cases r.isEmpty <;> cases orS m so r <;> simp
theorem setO32 {m : Int} : ∀ {os : List Int} {so : Nat},so < 32 → orS (min m 5) so os = true → setO so os < 32
 | [],_,h,_ => h
 | a :: r,so,h,ho => by
  obtain ⟨h1,h2,h3⟩ := orS_cons.1 ho
  exact setO32 (os := r) (or_lt2 (m := 5) h (by omega)) h3
def stGo (m : Int) (A : List (List Int)) (so n k : Nat) : LS := ⟨[(0,.i m),(1,.sl 0 (A.map eR)),(5,.i so),(6,.i n),(7,.i k)],[]⟩
theorem gs_outer (m : Int) (A : List (List Int)) (hb : (A.length : Int) < 1099511627776) : ∀ (L : List (List Int)) (k so n : Nat),so < 32 → ((n + L.flatten.length : Nat) : Int) < 1099511627776 → A.drop k = L → k + L.length = A.length →
  ex lf F_spec_GroupsOk_W0 (stGo m A so n k) = if gSp (min m 5) so L = true then some (.exit 0,stGo m A (setO so L.flatten) (n + L.flatten.length) A.length) else some (.ret,⟨[(4,.b false)],[]⟩) := by
 intro L
 induction L with
 | nil =>
  intro k so n hs hn hd hk
  have e : k = A.length := by simpa using hk
  subst e
  rw [w_spec_GroupsOk_0]
  simp [stGo,F_spec_GroupsOk_L0,gSp,setO]
 | cons R L ih0 =>
  intro k so n hs hn hd hk
  obtain ⟨k1,k2,k3⟩ := drop_cons hd
  have k1' : (k : Int) < A.length := by omega
  have at1 := at_eR k2
  simp only [List.flatten_cons,List.length_append] at hn
  simp only [List.length_cons] at hk
  have w1 := wr_succ (k := k) (by omega)
  rw [w_spec_GroupsOk_0]
  by_cases h0 : R = []
  ·subst h0
   simp only [gSp]
   simp [stGo,F_spec_GroupsOk_L0,k1,k1',at1]
  ·have I := gs_inner m A k2 k1' R 0 so n hs (by omega) (by omega) rfl (by simp)
   have e0 : R.isEmpty = false := by simpa using h0
   have r0 : ((R.length : Int) == 0) = false := by have := List.length_pos_iff.2 h0; exact beq_false_of_ne (by omega)
   simp only [gSp,e0,Bool.not_false,Bool.true_and]
   unfold stGi at I
   unfold stGo at *
   simp only [Int.natCast_zero] at I
   cases h1 : orS (min m 5) so R with
   | false =>
    rw [h1] at I
    simp at I
    simp [F_spec_GroupsOk_L0,k1,k1',at1,r0,I]
   | true =>
    rw [h1,if_pos rfl] at I
    have ih := ih0 (k + 1) (setO so R) (n + R.length) (setO32 hs h1) (by omega) k3 (by omega)
    rw [← Nat.add_assoc,List.flatten_cons,setO_app,List.length_append,← Nat.add_assoc] at *
    simp only [Bool.true_and]
    simp [F_spec_GroupsOk_L0,k1,k1',at1,r0,I,w1,ih,-Int.natCast_add,-List.length_flatten]
theorem c_spec_GroupsOk (m : Int) (L : List (List Int)) (hb : (L.length : Int) < 1099511627776) (hf : (L.flatten.length : Int) < 1099511627776) : call lf n_spec_GroupsOk [.i m,.sl 0 (L.map eR)] = some (.b (gokB m L),[]) := by
 rw [call_k lf n_spec_GroupsOk _ (F := F_spec_GroupsOk) rfl rfl]
 have I := gs_outer m L hb L 0 0 0 (by omega) (by omega) rfl (by simp)
 unfold stGo at I
 simp only [Int.natCast_zero,Nat.zero_add] at I
 have e1 : nOk m = decide (1 ≤ m ∧ m ≤ 5) := rfl
 rw [gSp_eq] at I
 unfold gokB orOk
 rw [e1]
 by_cases hm : 1 ≤ m ∧ m ≤ 5
 ·have h1 : decide (1 ≤ m ∧ m ≤ 5) = true := decide_eq_true hm
  have e5 : min m 5 = m := by omega
  rw [e5] at I
  rw [h1]
  cases h3 : (L.all (fun r => !r.isEmpty) && orS m 0 L.flatten) with
  | false =>
   rw [h3] at I
   simp at I
   have e : (L.all (fun r => !r.isEmpty) && (true && decide ((L.flatten.length : Int) = m) && orS m 0 L.flatten)) = false := by
    rw [Bool.true_and,← Bool.and_assoc,Bool.and_right_comm,h3]; rfl
   rw [e]
   simp [F_spec_GroupsOk,I]
  | true =>
   rw [h3,if_pos rfl] at I
   rw [Bool.and_eq_true] at h3
   rw [h3.1,h3.2]
   generalize L.flatten.length = z at *
   simp [F_spec_GroupsOk,I,c_spec_l1In,h1,Bool.beq_eq_decide_eq]
 ·have h1 : decide (1 ≤ m ∧ m ≤ 5) = false := decide_eq_false hm
  rw [h1]
  cases h3 : (L.all (fun r => !r.isEmpty) && orS (min m 5) 0 L.flatten) with
  | false =>
   rw [h3] at I
   simp at I
   simp [F_spec_GroupsOk,I]
  | true =>
   rw [h3,if_pos rfl] at I
   generalize L.flatten.length = z at *
   simp [F_spec_GroupsOk,I,c_spec_l1In,h1]
end
section
attribute [-simp] DV.cells
attribute [local simp] sliceD cells_st cells_sl cells_i cells_y cells_b cells_s cells_w
attribute [local simp] lend_eR al_eR
theorem c_szIntS (r : List Int) (left : Int) (hl : 0 ≤ left ∧ left ≤ 1048576) (hr : r.length ≤ Go.maxLen) : call lf n_laws_szIntS [.sl 0 (r.map .i),.i left] = some (.i (if (r.length : Int) ≤ left then left - r.length else -1),[]) := by
 rw [call_k lf n_laws_szIntS _ (F := F_laws_szIntS) rfl rfl]
 have hm : Go.maxLen = 9223372036854775807 := rfl
 have w1 : wr (left - r.length) = left - r.length := wr_id (by omega) (by omega)
 by_cases h : (r.length : Int) ≤ left
 ·have n0 : ¬ left - (r.length : Int) < 0 := by omega
  simp [F_laws_szIntS,w1,h,n0]
 ·have n0 : left - (r.length : Int) < 0 := by omega
  simp [F_laws_szIntS,w1,h,n0]
def szL (left : Int) : List (List Int) → Int
 | [] => left
 | r :: L => if (r.length : Int) ≤ left then szL (left - r.length) L else -1
theorem szL_ge : ∀ {L : List (List Int)} {left : Int},0 ≤ szL left L → (L.flatten.length : Int) ≤ left
 | [],left,h => by simpa [szL] using h
 | r :: L,left,h => by
  simp only [szL] at h
  split at h
  ·have := szL_ge h
   simp only [List.flatten_cons,List.length_append]; omega
  ·omega
def stSz (A : List (List Int)) (left : Int) (k : Nat) : LS := ⟨[(0,.sl 0 (A.map eR)),(1,.i left),(5,.i k)],[]⟩
theorem sz_loop (A : List (List Int)) (hA : A.length ≤ 1048576) : ∀ (L : List (List Int)) (k : Nat) (left : Int),(∀ r ∈ L,r.length ≤ Go.maxLen) → 0 ≤ left ∧ left ≤ 1048576 → A.drop k = L → k + L.length = A.length →
  (szL left L < 0 → ex lf F_laws_szIntSS_W0 (stSz A left k) = some (.ret,⟨[(4,.i (-1))],[]⟩)) ∧ (0 ≤ szL left L → ex lf F_laws_szIntSS_W0 (stSz A left k) = some (.exit 0,stSz A (szL left L) A.length)) := by
 intro L
 induction L with
 | nil =>
  intro k left hr hl hd hk
  have e : k = A.length := by simpa using hk
  subst e
  refine ⟨fun h => by simp only [szL] at h; omega,fun h => ?_⟩
  rw [w_laws_szIntSS_0]
  simp [stSz,F_laws_szIntSS_L0,szL]
 | cons r L ih0 =>
  intro k left hr hl hd hk
  obtain ⟨k1,k2,k3⟩ := drop_cons hd
  have k1' : (k : Int) < A.length := by omega
  have at1 := at_eR k2
  simp only [List.length_cons] at hk
  have w1 := wr_succ (k := k) (by omega)
  have C := c_szIntS r left hl (hr r (by simp))
  simp only [szL]
  unfold stSz at *
  by_cases h : (r.length : Int) ≤ left
  ·have ih := ih0 (k + 1) (left - r.length) (fun x hx => hr x (by simp [hx])) (by omega) k3 (by omega)
   rw [if_pos h] at C ⊢
   have n0 : ¬ left - (r.length : Int) < 0 := by omega
   refine ⟨fun hs => ?_,fun hs => ?_⟩
   ·rw [w_laws_szIntSS_0]
    have ih := ih.1 hs
    simp [F_laws_szIntSS_L0,k1,k1',at1,C,n0,w1,ih,-Int.natCast_add]
   ·rw [w_laws_szIntSS_0]
    have ih := ih.2 hs
    simp [F_laws_szIntSS_L0,k1,k1',at1,C,n0,w1,ih,-Int.natCast_add]
  ·rw [if_neg h] at C ⊢
   refine ⟨fun hs => ?_,fun hs => by omega⟩
   rw [w_laws_szIntSS_0]
   simp [F_laws_szIntSS_L0,k1,k1',at1,C]
/-- either it is too large,or this is what it says -/
theorem c_szIntSS (L : List (List Int)) (left : Int) (hl : 0 ≤ left ∧ left ≤ 1048576) (hL : L.length ≤ Go.maxLen) (hr : ∀ r ∈ L,r.length ≤ Go.maxLen) :
  call lf n_laws_szIntSS [.sl 0 (L.map eR),.i left] = some (.i (-1),[]) ∨ ∃ z : Int,0 ≤ z ∧ z ≤ left ∧ (L.length : Int) ≤ left ∧ (L.flatten.length : Int) ≤ left ∧ call lf n_laws_szIntSS [.sl 0 (L.map eR),.i left] = some (.i z,[]) := by
 have hm : Go.maxLen = 9223372036854775807 := rfl
 have w1 : wr (left - L.length) = left - L.length := wr_id (by omega) (by omega)
 rw [call_k lf n_laws_szIntSS _ (F := F_laws_szIntSS) rfl rfl]
 by_cases h : (L.length : Int) ≤ left
 ·have I := sz_loop L (by omega) L 0 (left - L.length) hr (by omega) rfl (by simp)
  unfold stSz at I
  simp only [Int.natCast_zero] at I
  have n0 : ¬ left - (L.length : Int) < 0 := by omega
  by_cases hs : 0 ≤ szL (left - L.length) L
  ·have I := I.2 hs
   have g := szL_ge hs
   have u : ∀ (L : List (List Int)) (a : Int),szL a L ≤ a ∨ szL a L = -1 := by
    intro L
    induction L with
    | nil => intro a; left; simp [szL]
    | cons r L ih =>
     intro a
     simp only [szL]
     split
     ·rcases ih (a - r.length) with h | h
      ·left; omega
      ·right; exact h
     ·right; rfl
   refine .inr ⟨szL (left - L.length) L,hs,?_,h,by omega,?_⟩
   ·rcases u L (left - L.length) with h | h <;> omega
   ·simp [F_laws_szIntSS,w1,n0,I]
  ·have I := I.1 (by omega)
   left
   simp [F_laws_szIntSS,w1,n0,I]
 ·left
  have n0 : left - (L.length : Int) < 0 := by omega
  simp [F_laws_szIntSS,w1,n0]
/-- rows that are new -/
def eN (r : List Int) : DV := .sl 1 (r.map .i)
theorem lend_eN (L : List (List Int)) : lendL (L.map eN) = L.map eR := by
 rw [lendL_map,List.map_map]
 apply List.map_congr_left
 intro r _
 simp [eN,eR,DV.lend]
theorem adopt_eN (o : Bool) (L : List (List Int)) : adoptL o (L.map eN) = L.map eN := by
 rw [adoptL_map,List.map_map]
 apply List.map_congr_left
 intro r _
 simp [eN,DV.adopt,adoptP]
theorem new_eN (L : List (List Int)) : allNewL (L.map eN) = true := by
 rw [allNewL_all,List.all_map,List.all_eq_true]
 intro r _
 simp [eN,DV.allNew,newP]
attribute [local simp] lend_eN adopt_eN new_eN
def cN (A : List (List Int)) (i : Nat) : List DV := (A.take i).map eN ++ List.replicate (A.length - i) (.sl 1 [])
theorem cN_len {A : List (List Int)} {i : Nat} (hi : i ≤ A.length) : (cN A i).length = A.length := by simp [cN]; omega
theorem cN_set {A : List (List Int)} {i : Nat} {r : List Int} (hi : i < A.length) (h : A[i]? = some r) : (cN A i).set i (.sl 1 (r.map .i)) = cN A (i + 1) := by
 have e : ((A.take i).map eN).length = i := by simp; omega
 unfold cN
 rw [List.set_append_right _ _ (by omega),e,Nat.sub_self,List.take_add_one,h,show A.length - i = (A.length - (i + 1)) + 1 by omega,List.replicate_succ,List.set_cons_zero,Option.toList_some,List.map_append,List.append_assoc]
 rfl
theorem cN_get {A : List (List Int)} {i : Nat} (hi : i < A.length) : atN (cN A i) i = some (.sl 1 []) := by
 show (cN A i)[i]? = _
 have : ((A.take i).map eN).length = i := by simp; omega
 unfold cN
 rw [List.getElem?_append_right (by omega),this,Nat.sub_self,List.getElem?_replicate]
 simp; omega
theorem cN_zero (A : List (List Int)) : cN A 0 = List.replicate A.length (.sl 1 []) := by simp [cN]
theorem cN_all (A : List (List Int)) : cN A A.length = A.map eN := by simp [cN]
theorem c_toIntSS (A : List (List Int)) (hA : (A.length : Int) ≤ 1048576) (hr : ∀ r ∈ A,(r.length : Int) ≤ 1048576) : call lf n_laws_toIntSS [.sl 0 (A.map eR)] = some (.fr 1 (A.map eN),[]) := by
 rw [call_k lf n_laws_toIntSS _ (F := F_laws_toIntSS) rfl rfl]
 have L : ex lf F_laws_toIntSS_W0 ⟨[(0,.sl 0 (A.map eR)),(3,.own 3592 A.length 0 A.length),(4,.i 0)],[(3592,cN A 0)]⟩ =
   some (.exit 0,⟨[(0,.sl 0 (A.map eR)),(3,.own 3592 A.length 0 A.length),(4,.i A.length)],[(3592,cN A A.length)]⟩) := by
  refine loop_count A.length (fun i => ⟨[(0,.sl 0 (A.map eR)),(3,.own 3592 A.length 0 A.length),(4,.i i)],[(3592,cN A i)]⟩) (fun i hi => ?_) ?_ (by simp)
  ·have hi' : (i : Int) < A.length := by omega
   have k2 : A[i]? = some A[i] := List.getElem?_eq_getElem hi
   have at1 := at_eR k2
   have T := c_toIntS A[i] (hr _ (List.getElem_mem hi))
   have w1 : wr ((i : Int) + 1) = (i : Int) + 1 := wr_id (by omega) (by omega)
   have c1 := cN_len (A := A) (i := i) (by omega)
   have c2 := cN_get hi
   have c3 := cN_set hi k2
   have tk : List.take A[i].length (A[i].map DV.i) = A[i].map .i := List.take_of_length_le (by simp)
   generalize A[i] = r at *
   simp [F_laws_toIntSS_L0,hi,hi',at1,T,w1,c1,c2,c3,tk]
  ·simp [F_laws_toIntSS_L0]
 have b1 : (A.length : Int) ≤ bound := by unfold bound; omega
 rw [cN_zero,cN_all] at L
 simp [F_laws_toIntSS,b1,L]
theorem c_eqIntSS_self (A : List (List Int)) (hA : (A.length : Int) ≤ 1048576) (hr : ∀ r ∈ A,(r.length : Int) ≤ 1048576) : call lf n_laws_eqIntSS [.sl 0 (A.map eR),.sl 0 (A.map eR)] = some (.b true,[]) := by
 rw [call_k lf n_laws_eqIntSS _ (F := F_laws_eqIntSS) rfl rfl]
 have L : ex lf F_laws_eqIntSS_W0 ⟨[(0,.sl 0 (A.map eR)),(1,.sl 0 (A.map eR)),(5,.i 0)],[]⟩ = some (.exit 0,⟨[(0,.sl 0 (A.map eR)),(1,.sl 0 (A.map eR)),(5,.i A.length)],[]⟩) := by
  refine loop_count A.length (fun i => ⟨[(0,.sl 0 (A.map eR)),(1,.sl 0 (A.map eR)),(5,.i i)],[]⟩) (fun i hi => ?_) ?_ (by simp)
  ·have hi' : (i : Int) < A.length := by omega
   have k2 : A[i]? = some A[i] := List.getElem?_eq_getElem hi
   have at1 := at_eR k2
   have T := c_eqIntS_self A[i] (hr _ (List.getElem_mem hi))
   have w1 : wr ((i : Int) + 1) = (i : Int) + 1 := wr_id (by omega) (by omega)
   generalize A[i] = r at *
   simp [F_laws_eqIntSS_L0,hi,hi',at1,T,w1]
  ·simp [F_laws_eqIntSS_L0]
 simp [F_laws_eqIntSS,L]
end
section
attribute [-simp] DV.cells
attribute [local simp] sliceD cells_st cells_sl cells_i cells_y cells_b cells_s cells_w
attribute [local simp] lend_eR al_eR lend_eN adopt_eN new_eN
theorem mk1_marks (k : Int) (n : Nat) : mk1 k n = (marksI k n).map .i := by simp [mk1,marksI]
set_option maxHeartbeats 4000000 in
theorem cut_markIntS (xs : List Int) (n : Nat) (k : Int) (k0 : 0 ≤ k) (k1 : k ≤ 1000000000) (hn : n ≤ 1048576) (hl : n ≤ xs.length) : ∃ S,ex lf F_laws_markIntS.body ⟨[(0,.own 15 xs.length 0 n),(1,.i k)],[(15,xs.map .i)]⟩ = some (.ret,S) ∧ resV S F_laws_markIntS.results = some [.i (k + n)] ∧ lookO S.ob 15 = some ((marksI k n ++ xs.drop n).map .i) := by
 have L := loop_count (lf := lf) (L := F_laws_markIntS_L0) n (fun i => ⟨[(0,.own 15 xs.length 0 n),(1,.i (k + i)),(5,.i i)],[(15,mk1 k i ++ (xs.map .i).drop i)]⟩) (x := .exit 0) (R := ⟨[(0,.own 15 xs.length 0 n),(1,.i (k + n)),(5,.i n)],[(15,mk1 k n ++ (xs.map .i).drop n)]⟩) (fun i hi => by
  have w1 : wr ((i : Int) + 1) = (i : Int) + 1 := wr_id (by omega) (by omega)
  have w2 : wr (k + i + 1) = k + (i + 1 : Nat) := by rw [wr_id (by omega) (by omega)]; omega
  have hi' : (i : Int) < n := by omega
  have hix : i < xs.length := by omega
  have hix' : (i : Int) < xs.length := by omega
  have e := split_at (es := xs.map DV.i) (i := i) (by simpa using hix)
  rw [List.getElem_map] at e
  rw [mk1_succ,e]
  have hA := mk1_len k i
  have lB : (List.drop (i + 1) (xs.map DV.i)).length = xs.length - (i + 1) := by simp
  generalize xs[i] = x at *
  generalize List.drop (i + 1) (xs.map DV.i) = B at *
  generalize mk1 k i = A at *
  have q1 := mid_at (B := B) hA
  have q2 := mid_set (B := B) hA
  have q3 : ∀ x : DV,(A ++ x :: B).length = xs.length := fun x => by simp [hA,lB]; omega
  rw [show A ++ [DV.i (k + ↑i)] ++ B = A ++ DV.i (k + ↑i) :: B by simp]
  have tl : (List.take n (A ++ DV.i x :: B)).length = n := by rw [List.length_take,q3]; omega
  simp [F_laws_markIntS_L0,hi,hi',hix,hix',hl,w1,w2,q1,q2,q3,tl,-List.length_append,-List.length_cons]) (by
  have lm : (mk1 k n ++ List.drop n (xs.map DV.i)).length = xs.length := by rw [List.length_append,mk1_len,List.length_drop,List.length_map]; omega
  have tl : (List.take n (mk1 k n ++ List.drop n (xs.map DV.i))).length = n := by rw [List.length_take,lm]; omega
  generalize mk1 k n ++ List.drop n (xs.map DV.i) = Z at *
  simp [F_laws_markIntS_L0,lm,tl,hl]) (by simp)
 have z : mk1 k 0 ++ (xs.map DV.i).drop 0 = xs.map .i := by simp [mk1]
 rw [z] at L
 have L' : ex lf F_laws_markIntS_W0 ⟨[(0,.own 15 xs.length 0 n),(1,.i k),(5,.i 0)],[(15,xs.map .i)]⟩ = some (.exit 0,⟨[(0,.own 15 xs.length 0 n),(1,.i (k + n)),(5,.i n)],[(15,mk1 k n ++ (xs.map .i).drop n)]⟩) := by
  have := L
  simp only [Int.natCast_zero,Int.add_zero] at this
  exact this
 have fin : mk1 k n ++ (xs.map DV.i).drop n = (marksI k n ++ xs.drop n).map .i := by rw [mk1_marks,List.map_append,List.map_drop]
 rw [fin] at L'
 generalize (marksI k n ++ xs.drop n).map DV.i = Z at *
 simp [F_laws_markIntS,L',resV]
theorem nil_markIntS (k : Int) : call lf n_laws_markIntS [.sl 0 [],.i k] = some (.i k,[]) := by
 rw [call_k lf n_laws_markIntS _ (F := F_laws_markIntS) rfl rfl]
 have L : ex lf F_laws_markIntS_W0 ⟨[(0,.sl 0 []),(1,.i k),(5,.i 0)],[]⟩ = some (.exit 0,⟨[(0,.sl 0 []),(1,.i k),(5,.i 0)],[]⟩) := by
  rw [w_laws_markIntS_0]
  simp [F_laws_markIntS_L0]
 simp [F_laws_markIntS,L]
theorem body_of {P : Go.Program} {dc : Array Go.Oper → Bool} (hok : ∀ f F,lf f = some F → OkF P dc f F) (hD : ∀ Γ,FnSound P Γ → DrawOk P Γ dc) (hB : BackSound P) {f : Nat} {args : List DV} {r : DV × List DV} (h : call lf f args = some r) : hasBody P f = true := by
 obtain ⟨n,hn⟩ := call_iff.1 h
 exact (callN_sound hok hD hB n f args r hn).1
theorem row_markIntS {P : Go.Program} {dc : Array Go.Oper → Bool} (hok : ∀ f F,lf f = some F → OkF P dc f F) (hD : ∀ Γ,FnSound P Γ → DrawOk P Γ dc) (hB : BackSound P) (k : Int) (n : Nat) (k0 : 0 ≤ k) (k1 : k ≤ 1000000000) (hn : n ≤ 1048576) : MarksRow P n_laws_markIntS k n := by
 have hb := body_of hok hD hB (nil_markIntS k)
 exact ⟨hb,fun _ => marks_nil hb (call_sound hok hD hB (nil_markIntS k)),fun _ => marks_cut hok hD hB (F := F_laws_markIntS) rfl rfl rfl rfl (by omega) (fun rs hl => by
  obtain ⟨S,h1,h2,h3⟩ := cut_markIntS rs n k k0 k1 hn hl
  exact ⟨.ret,S,.inr rfl,h1,h2,h3⟩) hb⟩
theorem totR_flat : ∀ L : List (List Int),totR L = L.flatten.length
 | [] => rfl
 | r :: L => by simp only [totR,List.flatten_cons,List.length_append,totR_flat L]
theorem totR_take : ∀ (rs : List (List Int)) (i : Nat),totR (rs.take i) ≤ totR rs
 | [],i => by simp [totR]
 | r :: rs,0 => by simp [totR]
 | r :: rs,i + 1 => by
  have := totR_take rs i
  simp only [List.take_succ_cons,totR]
  omega
theorem totR_mem : ∀ (rs : List (List Int)) (i : Nat) (r : List Int),rs[i]? = some r → r.length ≤ totR rs
 | [],i,r,h => by simp at h
 | s :: rs,0,r,h => by
  simp only [List.getElem?_cons_zero,Option.some.injEq] at h
  subst h
  simp only [totR]
  omega
 | s :: rs,i + 1,r,h => by
  have := totR_mem rs i r (by simpa using h)
  simp only [totR]
  omega
/-- the marks of a row of rows -/
theorem rows_markIntSS {P : Go.Program} {dc : Array Go.Oper → Bool} (hok : ∀ f F,lf f = some F → OkF P dc f F) (hD : ∀ Γ,FnSound P Γ → DrawOk P Γ dc) (hB : BackSound P) (rs : List (List Int)) (k : Int) (k0 : 0 ≤ k) (k1 : k ≤ 100000000) (hn : rs.length ≤ 1048576) (ht : totR rs ≤ 1048576) :
  Marks P n_laws_markIntSS (dRs rs) k (fun d => ∃ ss,d = dRs ss ∧ ss.map List.length = rs.map List.length ∧ (Dst rs → ss = mrkR k rs)) (k + totR rs) :=
 marks_rows hok hD hB (F := F_laws_markIntSS) rfl rfl rfl rfl rfl hn (fun i r hr => row_markIntS hok hD hB _ _ (by omega) (by have := totR_take rs i; omega) (by have := totR_mem rs i r hr; omega))
theorem flat_e2 : ∀ xs : List T,flat (xs.map e2) = xs.flatMap fun x => [DV.i x.1,.i x.2]
 | [] => rfl
 | x :: xs => by rw [List.map_cons,flat_cons,flat_e2 xs]; rfl
theorem ints_e2 (xs : List T) : intsC (flat (xs.map e2)) := by
 rw [flat_e2]
 intro c hc
 obtain ⟨x,_,hx⟩ := List.mem_flatMap.1 hc
 simp only [List.mem_cons,List.not_mem_nil,or_false] at hx
 rcases hx with rfl | rfl
 ·exact ⟨_,rfl⟩
 ·exact ⟨_,rfl⟩
end
section
attribute [-simp] DV.cells
attribute [local simp] sliceD cells_st cells_sl cells_i cells_y cells_b cells_s cells_w
def mkP (k : Int) (n : Nat) : List T := (List.range n).map fun (j : Nat) => (k + 2 * (j : Int),k + 2 * (j : Int) + 1)
theorem mk2_mkP (k : Int) (n : Nat) : mk2 k n = (mkP k n).map e2 := by simp [mk2,mkP,e2]
theorem nil_markMarkS (k : Int) : call lf n_laws_markMarkS [.sl 0 [],.i k] = some (.i k,[]) := by
 rw [call_k lf n_laws_markMarkS _ (F := F_laws_markMarkS) rfl rfl]
 have L : ex lf F_laws_markMarkS_W0 ⟨[(0,.sl 0 []),(1,.i k),(5,.i 0)],[]⟩ = some (.exit 0,⟨[(0,.sl 0 []),(1,.i k),(5,.i 0)],[]⟩) := by
  rw [w_laws_markMarkS_0]
  simp [F_laws_markMarkS_L0]
 simp [F_laws_markMarkS,L]
theorem row_markMarkS {P : Go.Program} {dc : Array Go.Oper → Bool} (hok : ∀ f F,lf f = some F → OkF P dc f F) (hD : ∀ Γ,FnSound P Γ → DrawOk P Γ dc) (hB : BackSound P) (xs : List T) (k : Int) (k0 : 0 ≤ k) (k1 : k ≤ 1000000000) (hl : xs.length ≤ 1048576) : Marks P n_laws_markMarkS (.sl 1 (xs.map e2)) k (· = .sl 1 ((mkP k xs.length).map e2)) (k + 2 * xs.length) := by
 have hb := body_of hok hD hB (nil_markMarkS k)
 by_cases h : xs = []
 ·subst h
  have := marks_nil hb (call_sound hok hD hB (nil_markMarkS k))
  simpa [mkP] using this
 ·have C := call_sound hok hD hB (c_markMarkS xs k k0 k1 hl)
  rw [mk2_mkP] at C
  exact marks_flat hb C (by simpa using h) (fun e he => by
   obtain ⟨x,_,rfl⟩ := List.mem_map.1 he
   rfl) ⟨by omega,by omega⟩ (ints_e2 xs) (ints_e2 _)
end
section
attribute [-simp] DV.cells
attribute [local simp] sliceD cells_st cells_sl cells_i cells_y cells_b cells_s cells_w
attribute [local simp] lend_eR al_eR
def ni (l : List Nat) : List Int := l.map fun k : Nat => (k : Int)
theorem ni_len (l : List Nat) : (ni l).length = l.length := by simp [ni]
theorem ni_toNat (l : List Nat) : (ni l).map Int.toNat = l := by
 unfold ni
 rw [List.map_map]
 conv => rhs; rw [← List.map_id l]
 apply List.map_congr_left
 intro k _
 simp
theorem at_ni {L : List Nat} {j k : Nat} (h : L[j]? = some k) : atI ((ni L).map DV.i) (j : Int) = some (.i k) ∧ atN ((ni L).map DV.i) j = some (.i k) := by
 have h' : (ni L)[j]? = some (k : Int) := by unfold ni; rw [List.getElem?_map,h]; rfl
 refine ⟨atI_int h',?_⟩
 show ((ni L).map DV.i)[j]? = _
 rw [List.getElem?_map,h']; rfl
end
section
attribute [-simp] DV.cells
attribute [local simp] sliceD cells_st cells_sl cells_i cells_y cells_b cells_s cells_w
attribute [local simp] lend_eR al_eR
theorem gok_of {m : Nat} (hm : 1 ≤ m ∧ m ≤ 5) {L : List (List Int)} (h : gokB m L = true) : ∃ N : List (List Nat),L = N.map ni ∧ Gok m N := by
 unfold gokB at h
 rw [Bool.and_eq_true] at h
 obtain ⟨h1,h2⟩ := h
 obtain ⟨o1,o2,o3⟩ := orOk_iff.1 h2
 obtain ⟨o4,o5⟩ := orS_nodup.1 o3
 have e : L = (L.map (List.map Int.toNat)).map ni := by
  rw [List.map_map]
  conv => lhs; rw [← List.map_id L]
  apply List.map_congr_left
  intro r hr
  show r = ni (r.map Int.toNat)
  unfold ni
  rw [List.map_map]
  conv => lhs; rw [← List.map_id r]
  apply List.map_congr_left
  intro a ha
  have := (o4 a (List.mem_flatten.2 ⟨r,hr,ha⟩)).1
  show a = ((a.toNat : Nat) : Int)
  omega
 have ef : (L.map (List.map Int.toNat)).flatten = L.flatten.map Int.toNat := by rw [List.map_flatten]
 have lt : ∀ g ∈ L.map (List.map Int.toNat),∀ k ∈ g,k < m := by
  intro g hg k hk
  obtain ⟨r,hr,rfl⟩ := List.mem_map.1 hg
  obtain ⟨a,ha,rfl⟩ := List.mem_map.1 hk
  have := (o4 a (List.mem_flatten.2 ⟨r,hr,ha⟩)).1
  omega
 have nd : (L.map (List.map Int.toNat)).flatten.Nodup := by
  rw [ef,List.nodup_iff_pairwise_ne,List.pairwise_map]
  refine List.Pairwise.imp_of_mem (fun {a b} ha hb hab h => hab ?_) (List.nodup_iff_pairwise_ne.1 o5)
  have := (o4 a ha).1
  have := (o4 b hb).1
  omega
 refine ⟨_,e,lt,nd,fun k hk => ?_,?_⟩
 ·rw [ef,List.mem_map]
  have p := (or_perm h2).mem_iff.2 (mem_rng.2 (show 0 ≤ (k : Int) ∧ (k : Int) < ((m : Int).toNat : Nat) by omega))
  exact ⟨(k : Int),p,by simp⟩
 ·intro g hg
  obtain ⟨r,hr,rfl⟩ := List.mem_map.1 hg
  have := List.all_eq_true.1 h1 r hr
  simpa using this
end
section
attribute [-simp] DV.cells
attribute [local simp] sliceD cells_st cells_sl cells_i cells_y cells_b cells_s cells_w
attribute [local simp] lend_eR al_eR
def tI : Nat → List Nat → List T
 | _,[] => []
 | i,k :: r => (0,(k : Int)) :: ((if i = 0 then [] else [(3,0)]) ++ tI (i + 1) r)
def gJ : Nat → List (List Nat) → List T
 | _,[] => []
 | j,g :: R => tI 0 g ++ ((if j = 0 then [] else [(2,0)]) ++ gJ (j + 1) R)
theorem tI_pos (i : Nat) : ∀ r : List Nat,tI (i + 1) r = r.flatMap fun k : Nat => [(0,(k : Int)),(3,0)]
 | [] => rfl
 | k :: r => by simp [tI,tI_pos (i + 1) r]
theorem tI_orL : ∀ g : List Nat,tI 0 g = orL g
 | [] => rfl
 | k :: r => by simp [tI,orL,tI_pos]
theorem gJ_pos (j : Nat) : ∀ R : List (List Nat),gJ (j + 1) R = R.flatMap fun g => orL g ++ [(2,0)]
 | [] => rfl
 | g :: R => by simp [gJ,gJ_pos (j + 1) R,tI_orL]
theorem gJ_grL : ∀ L : List (List Nat),gJ 0 L = grL L
 | [] => rfl
 | g :: R => by simp [gJ,grL,gJ_pos,tI_orL]
theorem tI_len : ∀ (r : List Nat) (i : Nat),(tI i r).length ≤ 2 * r.length
 | [],i => by simp [tI]
 | k :: r,i => by
  have := tI_len r (i + 1)
  simp only [tI,List.length_cons,List.length_append]
  split <;> simp <;> omega
def stT1 (A : List (List Int)) (g : List Nat) (acc : List T) (j i : Nat) : LS :=
 ⟨[(5,.own 2576 acc.length 0 acc.length),(6,.i j),(14,.sl 0 (A.map eR)),(15,.i A.length),(16,.i j),(21,.sl 0 ((ni g).map .i)),(22,.i g.length),(23,.i i)],[(2576,acc.map e2)]⟩
theorem t_inner (A : List (List Int)) (g : List Nat) (j : Nat) (h5 : g.length ≤ 5) : ∀ (r : List Nat) (i : Nat) (acc : List T),acc.length + 2 * r.length ≤ 1000 → g.drop i = r → i + r.length = g.length →
  ex lf F_impl_GroupTerm_W1 (stT1 A g acc j i) = some (.exit 2,stT1 A g (acc ++ tI i r) j g.length) := by
 intro r
 induction r with
 | nil =>
  intro i acc hl hd hi
  have e : i = g.length := by simpa using hi
  subst e
  rw [w_impl_GroupTerm_1]
  simp [stT1,F_impl_GroupTerm_L1,tI]
 | cons k r ih0 =>
  intro i acc hl hd hi
  obtain ⟨k1,k2,k3⟩ := drop_cons hd
  simp only [List.length_cons] at hl hi
  obtain ⟨a1,a2⟩ := at_ni k2
  have k1' : (i : Int) < g.length := by omega
  have ng := ni_len g
  have w1 := wr_succ (k := i) (by omega)
  have b1 : acc.length + 1 ≤ bound := by unfold bound; omega
  have b2 : acc.length + 1 + 1 ≤ bound := by unfold bound; omega
  rw [w_impl_GroupTerm_1]
  have w0 : wr (1 : Int) = 1 := wr_id (by omega) (by omega)
  cases i with
  | zero =>
   simp only [Int.natCast_zero] at a1
   have ih := ih0 1 (acc ++ [(0,(k : Int))]) (by simp; omega) k3 (by omega)
   have e : acc ++ tI 0 (k :: r) = (acc ++ [(0,(k : Int))]) ++ tI 1 r := by simp [tI]
   rw [e]
   unfold stT1 at *
   simp [F_impl_GroupTerm_L1,k1,ng,a1,a2,b1,e2,w0] at ih ⊢
   first | exact ih | simp [ih,-Int.natCast_add]
  | succ i =>
   have ih := ih0 (i + 1 + 1) (acc ++ [(0,(k : Int)),(3,0)]) (by simp; omega) k3 (by omega)
   have e : acc ++ tI (i + 1) (k :: r) = (acc ++ [(0,(k : Int)),(3,0)]) ++ tI (i + 1 + 1) r := by simp [tI]
   rw [e]
   have gq : 0 < i + 1 := by omega
   have tk : List.take (acc.length + 1) (acc.map e2 ++ [DV.st [.i 0,.i (k : Int)]]) = acc.map e2 ++ [DV.st [.i 0,.i (k : Int)]] := List.take_of_length_le (by simp)
   unfold stT1 at *
   generalize i + 1 = q at *
   simp [F_impl_GroupTerm_L1,k1,k1',ng,a1,a2,b1,b2,e2,gq,tk,w1,-Int.natCast_add] at ih ⊢
   first | exact ih | simp [ih,-Int.natCast_add]
def stT0 (A : List (List Int)) (acc : List T) (j : Nat) : LS :=
 ⟨[(5,.own 2576 acc.length 0 acc.length),(14,.sl 0 (A.map eR)),(15,.i A.length),(16,.i j)],[(2576,acc.map e2)]⟩
theorem t_outer (A : List (List Int)) (hA : A.length ≤ 1000) : ∀ (L : List (List Nat)) (j : Nat) (acc : List T),(∀ g ∈ L,g.length ≤ 5) → acc.length + (2 * L.flatten.length + L.length) ≤ 1000 → A.drop j = L.map ni → j + L.length = A.length →
  ex lf F_impl_GroupTerm_W0 (stT0 A acc j) = some (.exit 0,stT0 A (acc ++ gJ j L) A.length) := by
 intro L
 induction L with
 | nil =>
  intro j acc h5 hl hd hj
  have e : j = A.length := by simpa using hj
  subst e
  rw [w_impl_GroupTerm_0]
  simp [stT0,F_impl_GroupTerm_L0,gJ]
 | cons g L ih0 =>
  intro j acc h5 hl hd hj
  rw [List.map_cons] at hd
  obtain ⟨k1,k2,k3⟩ := drop_cons hd
  simp only [List.length_cons,List.flatten_cons,List.length_append] at hl hj
  have at1 := at_eR k2
  have k1' : (j : Int) < A.length := by omega
  have ng := ni_len g
  have w1 := wr_succ (k := j) (by omega)
  have g5 := h5 g (by simp)
  have I := t_inner A g j g5 g 0 acc (by omega) rfl (by omega)
  have tl := tI_len g 0
  have b1 : (acc ++ tI 0 g).length + 1 ≤ bound := by rw [List.length_append]; unfold bound; omega
  rw [w_impl_GroupTerm_0]
  unfold stT1 at I
  unfold stT0 at *
  simp only [Int.natCast_zero] at I
  have w0 : wr (1 : Int) = 1 := wr_id (by omega) (by omega)
  cases j with
  | zero =>
   try simp only [Int.natCast_zero] at at1
   have ih := ih0 1 (acc ++ tI 0 g) (fun x hx => h5 x (by simp [hx])) (by rw [List.length_append]; omega) k3 (by omega)
   have e : acc ++ gJ 0 (g :: L) = (acc ++ tI 0 g) ++ gJ 1 L := by simp [gJ]
   rw [e]
   generalize acc ++ tI 0 g = Q at *
   simp [F_impl_GroupTerm_L0,k1,at1,ng,w0,-Int.natCast_add] at ih I ⊢
   first | exact ih | simp [I,ih,w0,-Int.natCast_add]
  | succ j =>
   have ih := ih0 (j + 1 + 1) (acc ++ tI 0 g ++ [(2,0)]) (fun x hx => h5 x (by simp [hx])) (by simp only [List.length_append,List.length_singleton]; omega) k3 (by omega)
   have e : acc ++ gJ (j + 1) (g :: L) = (acc ++ tI 0 g ++ [(2,0)]) ++ gJ (j + 1 + 1) L := by simp [gJ]
   rw [e]
   have gq : 0 < j + 1 := by omega
   have e2' : ∀ Q : List T,(Q ++ [(2,0)]).map e2 = Q.map e2 ++ [DV.st [.i 2,.i 0]] := fun Q => by rw [List.map_append]; rfl
   rw [e2'] at ih
   generalize acc ++ tI 0 g = Q at *
   generalize j + 1 = q at *
   have tk : List.take Q.length (Q.map e2) = Q.map e2 := List.take_of_length_le (by simp)
   simp [F_impl_GroupTerm_L0,k1,k1',at1,ng,b1,gq,w1,tk,-Int.natCast_add] at ih I ⊢
   simp [I,ih,gq,b1,w1,-Int.natCast_add]
def gtL (m : Int) (L : List (List Int)) : List T := if gokB m L = true then grL (L.map (List.map Int.toNat)) else []
theorem toNat_ni (N : List (List Nat)) : (N.map ni).map (List.map Int.toNat) = N := by
 rw [List.map_map]
 conv => rhs; rw [← List.map_id N]
 apply List.map_congr_left
 intro g _
 exact ni_toNat g
theorem row_le {m : Nat} {N : List (List Nat)} (G : Gok m N) {g : List Nat} (hg : g ∈ N) : g.length ≤ m := by
 have l := gok_len G
 obtain ⟨A,B,hAB⟩ := List.append_of_mem hg
 rw [hAB,List.flatten_append,List.flatten_cons,List.length_append,List.length_append] at l; omega
theorem rows_le {m : Nat} {N : List (List Nat)} (G : Gok m N) : N.length ≤ m := by
 have l := gok_len G
 have key : ∀ {N : List (List Nat)},(∀ g ∈ N,g ≠ []) → N.length ≤ N.flatten.length := by
  intro N
  induction N with
  | nil => intro _; simp
  | cons g N ih =>
   intro h
   have := List.length_pos_iff.2 (h g (by simp))
   have := ih (fun x hx => h x (by simp [hx]))
   rw [List.flatten_cons,List.length_append,List.length_cons]; omega
 have := key G.ne
 omega
theorem grL_bd {m : Nat} (h1 : 1 ≤ m) {N : List (List Nat)} (G : Gok m N) : (grL N).length + 1 = 2 * m := by
 have := grL_len (gok_ne h1 G) G.ne
 rw [gok_len G] at this
 exact this
theorem gtL_le (m : Int) (L : List (List Int)) : (gtL m L).length ≤ 9 := by
 unfold gtL
 split
 ·rename_i h
  have hh := h
  unfold gokB at hh
  rw [Bool.and_eq_true] at hh
  have hm := (orOk_iff.1 hh.2).1
  obtain ⟨n,rfl⟩ : ∃ n : Nat,m = n := ⟨m.toNat,by omega⟩
  obtain ⟨N,rfl,G⟩ := gok_of (by omega) h
  rw [toNat_ni]
  have := grL_bd (by omega) G
  omega
 ·simp
theorem c_impl_GroupTerm (m : Int) (L : List (List Int)) (hb : (L.length : Int) < 1099511627776) : call lf n_impl_GroupTerm [.i m,.sl 0 (L.map eR)] = some (.fr 2 ((gtL m L).map e2),[]) := by
 rw [call_k lf n_impl_GroupTerm _ (F := F_impl_GroupTerm) rfl rfl]
 have C := c_impl_GroupsOk m L hb
 cases h : gokB m L with
 | false =>
  rw [h] at C
  have e : gtL m L = [] := by unfold gtL; rw [h]; rfl
  rw [e]
  simp [F_impl_GroupTerm,C]
 | true =>
  rw [h] at C
  have hh := h
  unfold gokB at hh
  rw [Bool.and_eq_true] at hh
  have hm := (orOk_iff.1 hh.2).1
  obtain ⟨n,rfl⟩ : ∃ n : Nat,m = n := ⟨m.toNat,by omega⟩
  obtain ⟨N,rfl,G⟩ := gok_of (by omega) h
  have e : gtL n (N.map ni) = grL N := by unfold gtL; rw [h,toNat_ni]; rfl
  have lN := rows_le G
  have lf' := gok_len G
  have I := t_outer (N.map ni) (by simp; omega) N 0 [] (fun g hg => by have := row_le G hg; omega) (by simp only [List.length_nil]; omega) rfl (by simp)
  unfold stT0 at I
  rw [List.nil_append,gJ_grL] at I
  rw [e]
  generalize grL N = Q at *
  generalize N.map ni = L at *
  have tk : List.take Q.length (Q.map e2) = Q.map e2 := List.take_of_length_le (by simp)
  simp only [List.length_nil,List.map_nil,Int.natCast_zero] at I
  simp [F_impl_GroupTerm,C,I,tk]
def stU1 (m : Int) (A : List (List Int)) (acc : List T) (j i : Nat) : LS :=
 ⟨[(0,.i m),(1,.sl 0 (A.map eR)),(5,.own 4112 acc.length 0 acc.length),(6,.i j),(7,.i i)],[(4112,acc.map e2)]⟩
theorem u_inner (m : Int) (A : List (List Int)) {g : List Nat} {j : Nat} (hj : A[j]? = some (ni g)) (h5 : g.length ≤ 5) : ∀ (r : List Nat) (i : Nat) (acc : List T),acc.length + 2 * r.length ≤ 1000 → g.drop i = r → i + r.length = g.length →
  ex lf F_spec_GroupTerm_W1 (stU1 m A acc j i) = some (.exit 2,stU1 m A (acc ++ tI i r) j g.length) := by
 have at1 := at_eR hj
 have j1 : (j : Int) < A.length := by have := (List.getElem?_eq_some_iff.1 hj).1; omega
 have ng := ni_len g
 intro r
 induction r with
 | nil =>
  intro i acc hl hd hi
  have e : i = g.length := by simpa using hi
  subst e
  rw [w_spec_GroupTerm_1]
  simp [stU1,F_spec_GroupTerm_L1,tI,at1,j1,ng]
 | cons k r ih0 =>
  intro i acc hl hd hi
  obtain ⟨k1,k2,k3⟩ := drop_cons hd
  simp only [List.length_cons] at hl hi
  obtain ⟨a1,a2⟩ := at_ni k2
  have k1' : (i : Int) < g.length := by omega
  have w1 := wr_succ (k := i) (by omega)
  have b1 : acc.length + 1 ≤ bound := by unfold bound; omega
  have b2 : acc.length + 1 + 1 ≤ bound := by unfold bound; omega
  rw [w_spec_GroupTerm_1]
  have w0 : wr (1 : Int) = 1 := wr_id (by omega) (by omega)
  cases i with
  | zero =>
   simp only [Int.natCast_zero] at a1
   have ih := ih0 1 (acc ++ [(0,(k : Int))]) (by simp; omega) k3 (by omega)
   have e : acc ++ tI 0 (k :: r) = (acc ++ [(0,(k : Int))]) ++ tI 1 r := by simp [tI]
   rw [e]
   unfold stU1 at *
   simp [F_spec_GroupTerm_L1,k1,ng,at1,j1,a1,a2,b1,e2,w0] at ih ⊢
   first | exact ih | simp [ih,-Int.natCast_add]
  | succ i =>
   have ih := ih0 (i + 1 + 1) (acc ++ [(0,(k : Int)),(3,0)]) (by simp; omega) k3 (by omega)
   have e : acc ++ tI (i + 1) (k :: r) = (acc ++ [(0,(k : Int)),(3,0)]) ++ tI (i + 1 + 1) r := by simp [tI]
   rw [e]
   have gq : 0 < i + 1 := by omega
   have tk : List.take (acc.length + 1) (acc.map e2 ++ [DV.st [.i 0,.i (k : Int)]]) = acc.map e2 ++ [DV.st [.i 0,.i (k : Int)]] := List.take_of_length_le (by simp)
   unfold stU1 at *
   generalize i + 1 = q at *
   simp [F_spec_GroupTerm_L1,k1,k1',ng,at1,j1,a1,a2,b1,b2,e2,gq,tk,w1,-Int.natCast_add] at ih ⊢
   first | exact ih | simp [ih,-Int.natCast_add]
def stU0 (m : Int) (A : List (List Int)) (acc : List T) (j : Nat) : LS :=
 ⟨[(0,.i m),(1,.sl 0 (A.map eR)),(5,.own 4112 acc.length 0 acc.length),(6,.i j)],[(4112,acc.map e2)]⟩
theorem u_outer (m : Int) (A : List (List Int)) (hA : A.length ≤ 1000) (C : call lf n_spec_GroupsOk [.i m,.sl 0 (A.map eR)] = some (.b true,[])) : ∀ (L : List (List Nat)) (j : Nat) (acc : List T),(∀ g ∈ L,g.length ≤ 5) → acc.length + (2 * L.flatten.length + L.length) ≤ 1000 → A.drop j = L.map ni → j + L.length = A.length →
  ex lf F_spec_GroupTerm_W0 (stU0 m A acc j) = some (.exit 0,stU0 m A (acc ++ gJ j L) A.length) := by
 intro L
 induction L with
 | nil =>
  intro j acc h5 hl hd hj
  have e : j = A.length := by simpa using hj
  subst e
  rw [w_spec_GroupTerm_0]
  simp [stU0,F_spec_GroupTerm_L0,gJ]
 | cons g L ih0 =>
  intro j acc h5 hl hd hj
  rw [List.map_cons] at hd
  obtain ⟨k1,k2,k3⟩ := drop_cons hd
  simp only [List.length_cons,List.flatten_cons,List.length_append] at hl hj
  have k1' : (j : Int) < A.length := by omega
  have w1 := wr_succ (k := j) (by omega)
  have g5 := h5 g (by simp)
  have I := u_inner m A k2 g5 g 0 acc (by omega) rfl (by omega)
  have tl := tI_len g 0
  have b1 : (acc ++ tI 0 g).length + 1 ≤ bound := by rw [List.length_append]; unfold bound; omega
  rw [w_spec_GroupTerm_0]
  unfold stU1 at I
  unfold stU0 at *
  simp only [Int.natCast_zero] at I
  have w0 : wr (1 : Int) = 1 := wr_id (by omega) (by omega)
  cases j with
  | zero =>
   try simp only [Int.natCast_zero] at at1
   have ih := ih0 1 (acc ++ tI 0 g) (fun x hx => h5 x (by simp [hx])) (by rw [List.length_append]; omega) k3 (by omega)
   have e : acc ++ gJ 0 (g :: L) = (acc ++ tI 0 g) ++ gJ 1 L := by simp [gJ]
   rw [e]
   generalize acc ++ tI 0 g = Q at *
   simp [F_spec_GroupTerm_L0,k1,C,w0,-Int.natCast_add] at ih I ⊢
   first | exact ih | simp [I,ih,w0,-Int.natCast_add]
  | succ j =>
   have ih := ih0 (j + 1 + 1) (acc ++ tI 0 g ++ [(2,0)]) (fun x hx => h5 x (by simp [hx])) (by simp only [List.length_append,List.length_singleton]; omega) k3 (by omega)
   have e : acc ++ gJ (j + 1) (g :: L) = (acc ++ tI 0 g ++ [(2,0)]) ++ gJ (j + 1 + 1) L := by simp [gJ]
   rw [e]
   have gq : 0 < j + 1 := by omega
   have e2' : ∀ Q : List T,(Q ++ [(2,0)]).map e2 = Q.map e2 ++ [DV.st [.i 2,.i 0]] := fun Q => by rw [List.map_append]; rfl
   rw [e2'] at ih
   generalize acc ++ tI 0 g = Q at *
   generalize j + 1 = q at *
   have tk : List.take Q.length (Q.map e2) = Q.map e2 := List.take_of_length_le (by simp)
   simp [F_spec_GroupTerm_L0,k1,k1',C,b1,gq,w1,tk,-Int.natCast_add] at ih I ⊢
   simp [I,ih,gq,b1,w1,-Int.natCast_add]
theorem c_spec_GroupTerm (m : Int) (L : List (List Int)) (hb : (L.length : Int) < 1099511627776) (hf : (L.flatten.length : Int) < 1099511627776) : call lf n_spec_GroupTerm [.i m,.sl 0 (L.map eR)] = some (.fr 2 ((gtL m L).map e2),[]) := by
 rw [call_k lf n_spec_GroupTerm _ (F := F_spec_GroupTerm) rfl rfl]
 have C := c_spec_GroupsOk m L hb hf
 cases h : gokB m L with
 | false =>
  rw [h] at C
  have e : gtL m L = [] := by unfold gtL; rw [h]; rfl
  rw [e]
  have W : ex lf F_spec_GroupTerm_W0 (stU0 m L [] 0) = some (.exit 0,stU0 m L [] 0) := by
   rw [w_spec_GroupTerm_0]
   by_cases h0 : 0 < L.length
   ·simp [stU0,F_spec_GroupTerm_L0,C,h0]
   ·simp [stU0,F_spec_GroupTerm_L0,C,h0]
  unfold stU0 at W
  simp only [List.length_nil,List.map_nil,Int.natCast_zero] at W
  simp [F_spec_GroupTerm,W]
 | true =>
  rw [h] at C
  have hh := h
  unfold gokB at hh
  rw [Bool.and_eq_true] at hh
  have hm := (orOk_iff.1 hh.2).1
  obtain ⟨n,rfl⟩ : ∃ n : Nat,m = n := ⟨m.toNat,by omega⟩
  obtain ⟨N,rfl,G⟩ := gok_of (by omega) h
  have e : gtL n (N.map ni) = grL N := by unfold gtL; rw [h,toNat_ni]; rfl
  have lN := rows_le G
  have lf' := gok_len G
  have I := u_outer n (N.map ni) (by simp; omega) C N 0 [] (fun g hg => by have := row_le G hg; omega) (by simp only [List.length_nil]; omega) rfl (by simp)
  unfold stU0 at I
  rw [List.nil_append,gJ_grL] at I
  rw [e]
  generalize grL N = Q at *
  generalize N.map ni = L at *
  have tk : List.take Q.length (Q.map e2) = Q.map e2 := List.take_of_length_le (by simp)
  simp only [List.length_nil,List.map_nil,Int.natCast_zero] at I
  simp [F_spec_GroupTerm,I,tk]
end
section
attribute [-simp] DV.cells
attribute [local simp] sliceD cells_st cells_sl cells_i cells_y cells_b cells_s cells_w
attribute [local simp] lend_eR al_eR lend_eN adopt_eN new_eN adopt_e2 new_e2
theorem lend_ints_ (ts : List Int) : lendL (ts.map .i) = ts.map .i := lend_i ts
def IGroupTerm_0 : LC := (.region false [⟨some 4,.mv,[.c (.b false)],none⟩] [4])
def IGroupTerm_1 : LC := (.region false [⟨some 5,.mv,[.c (.i 1048576)],none⟩] [])
def IGroupTerm_2 : LC := (.region false [⟨some 13,.mv,[.t 1],none⟩,
      ⟨some 14,.mv,[.t 5],none⟩,
      ⟨some 15,.call n_laws_szIntSS 7680,[.t 13,.t 14],none⟩,
      ⟨some 5,.mv,[.t 15],none⟩] [13,14,15])
def IGroupTerm_3 : LC := (.seq
       (.region false [⟨some 16,.mv,[.t 5],none⟩,
        ⟨some 17,.bin .lss,[.t 16,.c (.i 0)],none⟩] [5,16])
       (.cond (.t 17) [17]
        (.seq
         (.region false [⟨some 4,.mv,[.c (.b true)],none⟩] [0,1])
         .ret)
        .skip))
def IGroupTerm_4 : LC := (.region false [⟨some 18,.mv,[.t 0],none⟩,
        ⟨some 19,.mv,[.t 1],none⟩,
        ⟨some 20,.call n_laws_toIntSS 10240,[.t 19],none⟩,
        ⟨some 21,.call n_spec_GroupTerm 10752,[.t 18,.t 20],none⟩,
        ⟨some 6,.mv,[.t 21],none⟩] [18,19,20,21])
def IGroupTerm_5 : LC := (.region false [⟨some 22,.mv,[.t 1],none⟩,
         ⟨some 23,.call n_laws_toIntSS 11776,[.t 22],none⟩,
         ⟨some 7,.mv,[.t 23],none⟩] [22,23])
def IGroupTerm_6 : LC := (.region false [⟨some 24,.mv,[.t 0],none⟩,
          ⟨some 25,.mv,[.t 7],none⟩,
          ⟨some 26,.call n_impl_GroupTerm 13312,[.t 24,.t 25],none⟩,
          ⟨some 8,.mv,[.t 26],none⟩] [24,25,26])
def IGroupTerm_7 : LC := (.seq
           (.region false [⟨some 27,.mv,[.t 8],none⟩,
            ⟨some 28,.mv,[.t 6],none⟩,
            ⟨some 29,.call n_laws_eqMarkS 14848,[.t 27,.t 28],none⟩,
            ⟨some 30,.un .not,[.t 29],none⟩] [27,28,29])
           (.cond (.t 30) [30]
            (.seq
             (.region false [⟨some 4,.mv,[.c (.b false)],none⟩] [0,1,6,7,8])
             .ret)
            .skip))
def IGroupTerm_8 : LC := (.seq
            (.region false [⟨some 31,.mv,[.t 7],none⟩,
             ⟨some 32,.mv,[.t 1],none⟩,
             ⟨some 33,.call n_laws_toIntSS 16896,[.t 32],none⟩,
             ⟨some 34,.call n_laws_eqIntSS 17408,[.t 31,.t 33],none⟩,
             ⟨some 35,.un .not,[.t 34],none⟩] [31,32,33,34])
            (.cond (.t 35) [35]
             (.seq
              (.region false [⟨some 4,.mv,[.c (.b false)],none⟩] [0,1,6,7,8])
              .ret)
             .skip))
def IGroupTerm_9 : LC := (.region false [⟨some 9,.mv,[.c (.i 1)],none⟩] [])
def IGroupTerm_10 : LC := (.region false [⟨some 36,.mv,[.t 7],none⟩,
              ⟨some 37,.mv,[.t 9],none⟩,
              ⟨some 38,.call n_laws_markIntSS 19460,[.t 36,.t 37],none⟩,
              ⟨some 9,.mv,[.t 38],none⟩] [7,36,37,38])
def IGroupTerm_11 : LC := (.seq
               (.region false [⟨some 39,.mv,[.t 9],none⟩,
                ⟨some 40,.bin .lss,[.t 39,.c (.i 0)],none⟩,
                ⟨some 41,.mv,[.t 40],none⟩,
                ⟨some 42,.mv,[.t 8],some (41,false)⟩,
                ⟨some 43,.mv,[.t 6],some (41,false)⟩,
                ⟨some 44,.call n_laws_eqMarkS 22528,[.t 42,.t 43],some (41,false)⟩,
                ⟨some 45,.un .not,[.t 44],some (41,false)⟩,
                ⟨some 46,.pick,[.t 41,.c (.b true),.t 45],none⟩] [9,39,40,41,42,43,44,45])
               (.cond (.t 46) [46]
                (.seq
                 (.region false [⟨some 4,.mv,[.c (.b false)],none⟩] [0,1,6,8])
                 .ret)
                .skip))
def IGroupTerm_12 : LC := (.region false [⟨some 10,.mv,[.c (.i 1)],none⟩] [])
def IGroupTerm_13 : LC := (.region false [⟨some 47,.mv,[.t 8],none⟩,
                 ⟨some 48,.mv,[.t 10],none⟩,
                 ⟨some 49,.call n_laws_markMarkS 25092,[.t 47,.t 48],none⟩,
                 ⟨some 10,.mv,[.t 49],none⟩] [47,48,49])
def IGroupTerm_14 : LC := (.region false [⟨some 11,.mv,[.c (.i 1)],none⟩] [])
def IGroupTerm_15 : LC := (.region false [⟨some 50,.mv,[.t 8],none⟩,
                   ⟨some 51,.mv,[.t 11],none⟩,
                   ⟨some 52,.call n_laws_heldMarkS 26624,[.t 50,.t 51],none⟩,
                   ⟨some 11,.mv,[.t 52],none⟩] [50,51,52])
def IGroupTerm_16 : LC := (.seq
                    (.region false [⟨some 53,.mv,[.t 11],none⟩,
                     ⟨some 54,.bin .lss,[.t 53,.c (.i 0)],none⟩] [53])
                    (.cond (.t 54) [54]
                     (.seq
                      (.region false [⟨some 4,.mv,[.c (.b false)],none⟩] [0,1,6,8,10,11])
                      .ret)
                     .skip))
def IGroupTerm_17 : LC := (.seq
                     (.region false [⟨some 55,.mv,[.t 11],none⟩,
                      ⟨some 56,.mv,[.t 10],none⟩,
                      ⟨some 57,.bin .neq,[.t 55,.t 56],none⟩] [11,55,56])
                     (.cond (.t 57) [57]
                      (.seq
                       (.region false [⟨some 4,.mv,[.c (.b false)],none⟩] [0,1,6,8,10])
                       .ret)
                      .skip))
def IGroupTerm_18 : LC := (.region false [⟨some 58,.mv,[.t 0],none⟩,
                      ⟨some 59,.mv,[.t 1],none⟩,
                      ⟨some 60,.call n_laws_toIntSS 30720,[.t 59],none⟩,
                      ⟨some 61,.call n_impl_GroupTerm 31232,[.t 58,.t 60],none⟩,
                      ⟨some 12,.mv,[.t 61],none⟩] [0,1,58,59,60,61])
def IGroupTerm_19 : LC := (.seq
                       (.region false [⟨some 62,.mv,[.t 12],none⟩,
                        ⟨some 63,.mv,[.t 6],none⟩,
                        ⟨some 64,.call n_laws_eqMarkS 32768,[.t 62,.t 63],none⟩,
                        ⟨some 65,.un .not,[.t 64],none⟩] [6,12,62,63,64])
                       (.cond (.t 65) [65]
                        (.seq
                         (.region false [⟨some 4,.mv,[.c (.b false)],none⟩] [8,10])
                         .ret)
                        .skip))
def IGroupTerm_20 : LC := (.region false [⟨some 11,.mv,[.c (.i 1)],none⟩] [])
def IGroupTerm_21 : LC := (.region false [⟨some 66,.mv,[.t 8],none⟩,
                         ⟨some 67,.mv,[.t 11],none⟩,
                         ⟨some 68,.call n_laws_heldMarkS 34816,[.t 66,.t 67],none⟩,
                         ⟨some 11,.mv,[.t 68],none⟩] [8,66,67,68])
def IGroupTerm_22 : LC := (.seq
                          (.region false [⟨some 69,.mv,[.t 11],none⟩,
                           ⟨some 70,.bin .lss,[.t 69,.c (.i 0)],none⟩] [69])
                          (.cond (.t 70) [70]
                           (.seq
                            (.region false [⟨some 4,.mv,[.c (.b false)],none⟩] [10,11])
                            .ret)
                           .skip))
def IGroupTerm_23 : LC := (.seq
                           (.region false [⟨some 71,.mv,[.t 11],none⟩,
                            ⟨some 72,.mv,[.t 10],none⟩,
                            ⟨some 73,.bin .neq,[.t 71,.t 72],none⟩] [10,11,71,72])
                           (.cond (.t 73) [73]
                            (.seq
                             (.region false [⟨some 4,.mv,[.c (.b false)],none⟩] [])
                             .ret)
                            .skip))
def IGroupTerm_24 : LC := (.region false [⟨some 4,.mv,[.c (.b true)],none⟩] [])
def RGroupTerm_25 : LC := .ret
def RGroupTerm_24 : LC := .seq IGroupTerm_24 RGroupTerm_25
def RGroupTerm_23 : LC := .seq IGroupTerm_23 RGroupTerm_24
def RGroupTerm_22 : LC := .seq IGroupTerm_22 RGroupTerm_23
def RGroupTerm_21 : LC := .seq IGroupTerm_21 RGroupTerm_22
def RGroupTerm_20 : LC := .seq IGroupTerm_20 RGroupTerm_21
def RGroupTerm_19 : LC := .seq IGroupTerm_19 RGroupTerm_20
def RGroupTerm_18 : LC := .seq IGroupTerm_18 RGroupTerm_19
def RGroupTerm_17 : LC := .seq IGroupTerm_17 RGroupTerm_18
def RGroupTerm_16 : LC := .seq IGroupTerm_16 RGroupTerm_17
def RGroupTerm_15 : LC := .seq IGroupTerm_15 RGroupTerm_16
def RGroupTerm_14 : LC := .seq IGroupTerm_14 RGroupTerm_15
def RGroupTerm_13 : LC := .seq IGroupTerm_13 RGroupTerm_14
def RGroupTerm_12 : LC := .seq IGroupTerm_12 RGroupTerm_13
def RGroupTerm_11 : LC := .seq IGroupTerm_11 RGroupTerm_12
def RGroupTerm_10 : LC := .seq IGroupTerm_10 RGroupTerm_11
def RGroupTerm_9 : LC := .seq IGroupTerm_9 RGroupTerm_10
def RGroupTerm_8 : LC := .seq IGroupTerm_8 RGroupTerm_9
def RGroupTerm_7 : LC := .seq IGroupTerm_7 RGroupTerm_8
def RGroupTerm_6 : LC := .seq IGroupTerm_6 RGroupTerm_7
def RGroupTerm_5 : LC := .seq IGroupTerm_5 RGroupTerm_6
def RGroupTerm_4 : LC := .seq IGroupTerm_4 RGroupTerm_5
def RGroupTerm_3 : LC := .seq IGroupTerm_3 RGroupTerm_4
def RGroupTerm_2 : LC := .seq IGroupTerm_2 RGroupTerm_3
def RGroupTerm_1 : LC := .seq IGroupTerm_1 RGroupTerm_2
def RGroupTerm_0 : LC := .seq IGroupTerm_0 RGroupTerm_1
theorem body_GroupTerm : F_laws_FnExactGroupTerm.body = RGroupTerm_0 := rfl
set_option maxHeartbeats 4000000 in
theorem sGroupTerm_0 {m z : Int} {L : List (List Int)} {X : List T} (z0 : 0 ≤ z) (hL : L.length ≤ 1048576) (hT : totR L ≤ 1048576) (hR : ∀ r ∈ L,(r.length : Int) ≤ 1048576) (hX : X.length ≤ 100) (S : call lf n_laws_szIntSS [.sl 0 (L.map eR),.i 1048576] = some (.i z,[])) (C1 : call lf n_impl_GroupTerm [.i m,.sl 0 (L.map eR)] = some (.fr 2 (X.map e2),[])) (C2 : call lf n_spec_GroupTerm [.i m,.sl 0 (L.map eR)] = some (.fr 2 (X.map e2),[])) : ∃ S1,ex lf IGroupTerm_0 ⟨[(0,.i (m)),(1,.sl 0 (L.map eR))],[]⟩ = some (.normal,S1) ∧ ∀ g ∈ ([] : List (Nat × DV)),made S1 g := by
 have n0 : ¬ z < 0 := by omega
 have A := c_toIntSS L (by omega) hR
 have Q := c_eqIntSS_self L (by omega) hR
 have Q0 := c_eqMarkS_self X (by omega)
 have HH := c_heldMarkS X.length 1 (by omega) (by omega) (by omega)
 rw [mk2_mkP] at HH
 have n3 : ¬ 1 + (totR L : Int) < 0 := by omega
 have n4 : ¬ 1 + 2 * (X.length : Int) < 0 := by omega
 have tk : List.take L.length (L.map eN) = L.map eN := List.take_of_length_le (by simp)
 have tk2 : List.take X.length (X.map e2) = X.map e2 := List.take_of_length_le (by simp)
 simp (config := { maxSteps := 2000000 }) [IGroupTerm_0,made,settle,elems,wholeP,DV.allNew,DV.adopt,adoptP,newP,S,n0,A,Q,Q0,HH,n3,n4,tk,tk2,C1,C2]
set_option maxHeartbeats 4000000 in
theorem sGroupTerm_1 {m z : Int} {L : List (List Int)} {X : List T} (z0 : 0 ≤ z) (hL : L.length ≤ 1048576) (hT : totR L ≤ 1048576) (hR : ∀ r ∈ L,(r.length : Int) ≤ 1048576) (hX : X.length ≤ 100) (S : call lf n_laws_szIntSS [.sl 0 (L.map eR),.i 1048576] = some (.i z,[])) (C1 : call lf n_impl_GroupTerm [.i m,.sl 0 (L.map eR)] = some (.fr 2 (X.map e2),[])) (C2 : call lf n_spec_GroupTerm [.i m,.sl 0 (L.map eR)] = some (.fr 2 (X.map e2),[])) : ∃ S1,ex lf IGroupTerm_1 ⟨[(0,.i (m)),(1,.sl 0 (L.map eR))],[]⟩ = some (.normal,S1) ∧ ∀ g ∈ ([(5,.i (1048576))] : List (Nat × DV)),made S1 g := by
 have n0 : ¬ z < 0 := by omega
 have A := c_toIntSS L (by omega) hR
 have Q := c_eqIntSS_self L (by omega) hR
 have Q0 := c_eqMarkS_self X (by omega)
 have HH := c_heldMarkS X.length 1 (by omega) (by omega) (by omega)
 rw [mk2_mkP] at HH
 have n3 : ¬ 1 + (totR L : Int) < 0 := by omega
 have n4 : ¬ 1 + 2 * (X.length : Int) < 0 := by omega
 have tk : List.take L.length (L.map eN) = L.map eN := List.take_of_length_le (by simp)
 have tk2 : List.take X.length (X.map e2) = X.map e2 := List.take_of_length_le (by simp)
 simp (config := { maxSteps := 2000000 }) [IGroupTerm_1,made,settle,elems,wholeP,DV.allNew,DV.adopt,adoptP,newP,S,n0,A,Q,Q0,HH,n3,n4,tk,tk2,C1,C2]
set_option maxHeartbeats 4000000 in
theorem sGroupTerm_2 {m z : Int} {L : List (List Int)} {X : List T} (z0 : 0 ≤ z) (hL : L.length ≤ 1048576) (hT : totR L ≤ 1048576) (hR : ∀ r ∈ L,(r.length : Int) ≤ 1048576) (hX : X.length ≤ 100) (S : call lf n_laws_szIntSS [.sl 0 (L.map eR),.i 1048576] = some (.i z,[])) (C1 : call lf n_impl_GroupTerm [.i m,.sl 0 (L.map eR)] = some (.fr 2 (X.map e2),[])) (C2 : call lf n_spec_GroupTerm [.i m,.sl 0 (L.map eR)] = some (.fr 2 (X.map e2),[])) : ∃ S1,ex lf IGroupTerm_2 ⟨[(0,.i (m)),(1,.sl 0 (L.map eR)),(5,.i (1048576))],[]⟩ = some (.normal,S1) ∧ ∀ g ∈ ([(5,.i (z))] : List (Nat × DV)),made S1 g := by
 have n0 : ¬ z < 0 := by omega
 have A := c_toIntSS L (by omega) hR
 have Q := c_eqIntSS_self L (by omega) hR
 have Q0 := c_eqMarkS_self X (by omega)
 have HH := c_heldMarkS X.length 1 (by omega) (by omega) (by omega)
 rw [mk2_mkP] at HH
 have n3 : ¬ 1 + (totR L : Int) < 0 := by omega
 have n4 : ¬ 1 + 2 * (X.length : Int) < 0 := by omega
 have tk : List.take L.length (L.map eN) = L.map eN := List.take_of_length_le (by simp)
 have tk2 : List.take X.length (X.map e2) = X.map e2 := List.take_of_length_le (by simp)
 simp (config := { maxSteps := 2000000 }) [IGroupTerm_2,made,settle,elems,wholeP,DV.allNew,DV.adopt,adoptP,newP,S,n0,A,Q,Q0,HH,n3,n4,tk,tk2,C1,C2]
set_option maxHeartbeats 4000000 in
theorem sGroupTerm_3 {m z : Int} {L : List (List Int)} {X : List T} (z0 : 0 ≤ z) (hL : L.length ≤ 1048576) (hT : totR L ≤ 1048576) (hR : ∀ r ∈ L,(r.length : Int) ≤ 1048576) (hX : X.length ≤ 100) (S : call lf n_laws_szIntSS [.sl 0 (L.map eR),.i 1048576] = some (.i z,[])) (C1 : call lf n_impl_GroupTerm [.i m,.sl 0 (L.map eR)] = some (.fr 2 (X.map e2),[])) (C2 : call lf n_spec_GroupTerm [.i m,.sl 0 (L.map eR)] = some (.fr 2 (X.map e2),[])) : ∃ S1,ex lf IGroupTerm_3 ⟨[(0,.i (m)),(1,.sl 0 (L.map eR)),(5,.i (z))],[]⟩ = some (.normal,S1) ∧ ∀ g ∈ ([] : List (Nat × DV)),made S1 g := by
 have n0 : ¬ z < 0 := by omega
 have A := c_toIntSS L (by omega) hR
 have Q := c_eqIntSS_self L (by omega) hR
 have Q0 := c_eqMarkS_self X (by omega)
 have HH := c_heldMarkS X.length 1 (by omega) (by omega) (by omega)
 rw [mk2_mkP] at HH
 have n3 : ¬ 1 + (totR L : Int) < 0 := by omega
 have n4 : ¬ 1 + 2 * (X.length : Int) < 0 := by omega
 have tk : List.take L.length (L.map eN) = L.map eN := List.take_of_length_le (by simp)
 have tk2 : List.take X.length (X.map e2) = X.map e2 := List.take_of_length_le (by simp)
 simp (config := { maxSteps := 2000000 }) [IGroupTerm_3,made,settle,elems,wholeP,DV.allNew,DV.adopt,adoptP,newP,S,n0,A,Q,Q0,HH,n3,n4,tk,tk2,C1,C2]
set_option maxHeartbeats 4000000 in
theorem sGroupTerm_4 {m z : Int} {L : List (List Int)} {X : List T} (z0 : 0 ≤ z) (hL : L.length ≤ 1048576) (hT : totR L ≤ 1048576) (hR : ∀ r ∈ L,(r.length : Int) ≤ 1048576) (hX : X.length ≤ 100) (S : call lf n_laws_szIntSS [.sl 0 (L.map eR),.i 1048576] = some (.i z,[])) (C1 : call lf n_impl_GroupTerm [.i m,.sl 0 (L.map eR)] = some (.fr 2 (X.map e2),[])) (C2 : call lf n_spec_GroupTerm [.i m,.sl 0 (L.map eR)] = some (.fr 2 (X.map e2),[])) : ∃ S1,ex lf IGroupTerm_4 ⟨[(0,.i (m)),(1,.sl 0 (L.map eR))],[]⟩ = some (.normal,S1) ∧ ∀ g ∈ ([(6,.sl 1 (X.map e2))] : List (Nat × DV)),made S1 g := by
 have n0 : ¬ z < 0 := by omega
 have A := c_toIntSS L (by omega) hR
 have Q := c_eqIntSS_self L (by omega) hR
 have Q0 := c_eqMarkS_self X (by omega)
 have HH := c_heldMarkS X.length 1 (by omega) (by omega) (by omega)
 rw [mk2_mkP] at HH
 have n3 : ¬ 1 + (totR L : Int) < 0 := by omega
 have n4 : ¬ 1 + 2 * (X.length : Int) < 0 := by omega
 have tk : List.take L.length (L.map eN) = L.map eN := List.take_of_length_le (by simp)
 have tk2 : List.take X.length (X.map e2) = X.map e2 := List.take_of_length_le (by simp)
 simp (config := { maxSteps := 2000000 }) [IGroupTerm_4,made,settle,elems,wholeP,DV.allNew,DV.adopt,adoptP,newP,S,n0,A,Q,Q0,HH,n3,n4,tk,tk2,C1,C2]
set_option maxHeartbeats 4000000 in
theorem sGroupTerm_5 {m z : Int} {L : List (List Int)} {X : List T} (z0 : 0 ≤ z) (hL : L.length ≤ 1048576) (hT : totR L ≤ 1048576) (hR : ∀ r ∈ L,(r.length : Int) ≤ 1048576) (hX : X.length ≤ 100) (S : call lf n_laws_szIntSS [.sl 0 (L.map eR),.i 1048576] = some (.i z,[])) (C1 : call lf n_impl_GroupTerm [.i m,.sl 0 (L.map eR)] = some (.fr 2 (X.map e2),[])) (C2 : call lf n_spec_GroupTerm [.i m,.sl 0 (L.map eR)] = some (.fr 2 (X.map e2),[])) : ∃ S1,ex lf IGroupTerm_5 ⟨[(0,.i (m)),(1,.sl 0 (L.map eR)),(6,.sl 0 (X.map e2))],[]⟩ = some (.normal,S1) ∧ ∀ g ∈ ([(7,.sl 1 (L.map eN))] : List (Nat × DV)),made S1 g := by
 have n0 : ¬ z < 0 := by omega
 have A := c_toIntSS L (by omega) hR
 have Q := c_eqIntSS_self L (by omega) hR
 have Q0 := c_eqMarkS_self X (by omega)
 have HH := c_heldMarkS X.length 1 (by omega) (by omega) (by omega)
 rw [mk2_mkP] at HH
 have n3 : ¬ 1 + (totR L : Int) < 0 := by omega
 have n4 : ¬ 1 + 2 * (X.length : Int) < 0 := by omega
 have tk : List.take L.length (L.map eN) = L.map eN := List.take_of_length_le (by simp)
 have tk2 : List.take X.length (X.map e2) = X.map e2 := List.take_of_length_le (by simp)
 simp (config := { maxSteps := 2000000 }) [IGroupTerm_5,made,settle,elems,wholeP,DV.allNew,DV.adopt,adoptP,newP,S,n0,A,Q,Q0,HH,n3,n4,tk,tk2,C1,C2]
set_option maxHeartbeats 4000000 in
theorem sGroupTerm_6 {m z : Int} {L : List (List Int)} {X : List T} (z0 : 0 ≤ z) (hL : L.length ≤ 1048576) (hT : totR L ≤ 1048576) (hR : ∀ r ∈ L,(r.length : Int) ≤ 1048576) (hX : X.length ≤ 100) (S : call lf n_laws_szIntSS [.sl 0 (L.map eR),.i 1048576] = some (.i z,[])) (C1 : call lf n_impl_GroupTerm [.i m,.sl 0 (L.map eR)] = some (.fr 2 (X.map e2),[])) (C2 : call lf n_spec_GroupTerm [.i m,.sl 0 (L.map eR)] = some (.fr 2 (X.map e2),[])) : ∃ S1,ex lf IGroupTerm_6 ⟨[(0,.i (m)),(1,.sl 0 (L.map eR)),(6,.sl 0 (X.map e2)),(7,.sl 0 (L.map eR))],[]⟩ = some (.normal,S1) ∧ ∀ g ∈ ([(8,.sl 1 (X.map e2))] : List (Nat × DV)),made S1 g := by
 have n0 : ¬ z < 0 := by omega
 have A := c_toIntSS L (by omega) hR
 have Q := c_eqIntSS_self L (by omega) hR
 have Q0 := c_eqMarkS_self X (by omega)
 have HH := c_heldMarkS X.length 1 (by omega) (by omega) (by omega)
 rw [mk2_mkP] at HH
 have n3 : ¬ 1 + (totR L : Int) < 0 := by omega
 have n4 : ¬ 1 + 2 * (X.length : Int) < 0 := by omega
 have tk : List.take L.length (L.map eN) = L.map eN := List.take_of_length_le (by simp)
 have tk2 : List.take X.length (X.map e2) = X.map e2 := List.take_of_length_le (by simp)
 simp (config := { maxSteps := 2000000 }) [IGroupTerm_6,made,settle,elems,wholeP,DV.allNew,DV.adopt,adoptP,newP,S,n0,A,Q,Q0,HH,n3,n4,tk,tk2,C1,C2]
set_option maxHeartbeats 4000000 in
theorem sGroupTerm_7 {m z : Int} {L : List (List Int)} {X : List T} (z0 : 0 ≤ z) (hL : L.length ≤ 1048576) (hT : totR L ≤ 1048576) (hR : ∀ r ∈ L,(r.length : Int) ≤ 1048576) (hX : X.length ≤ 100) (S : call lf n_laws_szIntSS [.sl 0 (L.map eR),.i 1048576] = some (.i z,[])) (C1 : call lf n_impl_GroupTerm [.i m,.sl 0 (L.map eR)] = some (.fr 2 (X.map e2),[])) (C2 : call lf n_spec_GroupTerm [.i m,.sl 0 (L.map eR)] = some (.fr 2 (X.map e2),[])) : ∃ S1,ex lf IGroupTerm_7 ⟨[(0,.i (m)),(1,.sl 0 (L.map eR)),(6,.sl 0 (X.map e2)),(7,.sl 0 (L.map eR)),(8,.sl 0 (X.map e2))],[]⟩ = some (.normal,S1) ∧ ∀ g ∈ ([] : List (Nat × DV)),made S1 g := by
 have n0 : ¬ z < 0 := by omega
 have A := c_toIntSS L (by omega) hR
 have Q := c_eqIntSS_self L (by omega) hR
 have Q0 := c_eqMarkS_self X (by omega)
 have HH := c_heldMarkS X.length 1 (by omega) (by omega) (by omega)
 rw [mk2_mkP] at HH
 have n3 : ¬ 1 + (totR L : Int) < 0 := by omega
 have n4 : ¬ 1 + 2 * (X.length : Int) < 0 := by omega
 have tk : List.take L.length (L.map eN) = L.map eN := List.take_of_length_le (by simp)
 have tk2 : List.take X.length (X.map e2) = X.map e2 := List.take_of_length_le (by simp)
 simp (config := { maxSteps := 2000000 }) [IGroupTerm_7,made,settle,elems,wholeP,DV.allNew,DV.adopt,adoptP,newP,S,n0,A,Q,Q0,HH,n3,n4,tk,tk2,C1,C2]
set_option maxHeartbeats 4000000 in
theorem sGroupTerm_8 {m z : Int} {L : List (List Int)} {X : List T} (z0 : 0 ≤ z) (hL : L.length ≤ 1048576) (hT : totR L ≤ 1048576) (hR : ∀ r ∈ L,(r.length : Int) ≤ 1048576) (hX : X.length ≤ 100) (S : call lf n_laws_szIntSS [.sl 0 (L.map eR),.i 1048576] = some (.i z,[])) (C1 : call lf n_impl_GroupTerm [.i m,.sl 0 (L.map eR)] = some (.fr 2 (X.map e2),[])) (C2 : call lf n_spec_GroupTerm [.i m,.sl 0 (L.map eR)] = some (.fr 2 (X.map e2),[])) : ∃ S1,ex lf IGroupTerm_8 ⟨[(0,.i (m)),(1,.sl 0 (L.map eR)),(6,.sl 0 (X.map e2)),(7,.sl 0 (L.map eR)),(8,.sl 0 (X.map e2))],[]⟩ = some (.normal,S1) ∧ ∀ g ∈ ([] : List (Nat × DV)),made S1 g := by
 have n0 : ¬ z < 0 := by omega
 have A := c_toIntSS L (by omega) hR
 have Q := c_eqIntSS_self L (by omega) hR
 have Q0 := c_eqMarkS_self X (by omega)
 have HH := c_heldMarkS X.length 1 (by omega) (by omega) (by omega)
 rw [mk2_mkP] at HH
 have n3 : ¬ 1 + (totR L : Int) < 0 := by omega
 have n4 : ¬ 1 + 2 * (X.length : Int) < 0 := by omega
 have tk : List.take L.length (L.map eN) = L.map eN := List.take_of_length_le (by simp)
 have tk2 : List.take X.length (X.map e2) = X.map e2 := List.take_of_length_le (by simp)
 simp (config := { maxSteps := 2000000 }) [IGroupTerm_8,made,settle,elems,wholeP,DV.allNew,DV.adopt,adoptP,newP,S,n0,A,Q,Q0,HH,n3,n4,tk,tk2,C1,C2]
set_option maxHeartbeats 4000000 in
theorem sGroupTerm_9 {m z : Int} {L : List (List Int)} {X : List T} (z0 : 0 ≤ z) (hL : L.length ≤ 1048576) (hT : totR L ≤ 1048576) (hR : ∀ r ∈ L,(r.length : Int) ≤ 1048576) (hX : X.length ≤ 100) (S : call lf n_laws_szIntSS [.sl 0 (L.map eR),.i 1048576] = some (.i z,[])) (C1 : call lf n_impl_GroupTerm [.i m,.sl 0 (L.map eR)] = some (.fr 2 (X.map e2),[])) (C2 : call lf n_spec_GroupTerm [.i m,.sl 0 (L.map eR)] = some (.fr 2 (X.map e2),[])) : ∃ S1,ex lf IGroupTerm_9 ⟨[(0,.i (m)),(1,.sl 0 (L.map eR)),(6,.sl 0 (X.map e2)),(7,.sl 0 (L.map eR)),(8,.sl 0 (X.map e2))],[]⟩ = some (.normal,S1) ∧ ∀ g ∈ ([(9,.i (1))] : List (Nat × DV)),made S1 g := by
 have n0 : ¬ z < 0 := by omega
 have A := c_toIntSS L (by omega) hR
 have Q := c_eqIntSS_self L (by omega) hR
 have Q0 := c_eqMarkS_self X (by omega)
 have HH := c_heldMarkS X.length 1 (by omega) (by omega) (by omega)
 rw [mk2_mkP] at HH
 have n3 : ¬ 1 + (totR L : Int) < 0 := by omega
 have n4 : ¬ 1 + 2 * (X.length : Int) < 0 := by omega
 have tk : List.take L.length (L.map eN) = L.map eN := List.take_of_length_le (by simp)
 have tk2 : List.take X.length (X.map e2) = X.map e2 := List.take_of_length_le (by simp)
 simp (config := { maxSteps := 2000000 }) [IGroupTerm_9,made,settle,elems,wholeP,DV.allNew,DV.adopt,adoptP,newP,S,n0,A,Q,Q0,HH,n3,n4,tk,tk2,C1,C2]
set_option maxHeartbeats 4000000 in
theorem sGroupTerm_11 {m z : Int} {L : List (List Int)} {X : List T} (z0 : 0 ≤ z) (hL : L.length ≤ 1048576) (hT : totR L ≤ 1048576) (hR : ∀ r ∈ L,(r.length : Int) ≤ 1048576) (hX : X.length ≤ 100) (S : call lf n_laws_szIntSS [.sl 0 (L.map eR),.i 1048576] = some (.i z,[])) (C1 : call lf n_impl_GroupTerm [.i m,.sl 0 (L.map eR)] = some (.fr 2 (X.map e2),[])) (C2 : call lf n_spec_GroupTerm [.i m,.sl 0 (L.map eR)] = some (.fr 2 (X.map e2),[])) : ∃ S1,ex lf IGroupTerm_11 ⟨[(0,.i (m)),(1,.sl 0 (L.map eR)),(6,.sl 0 (X.map e2)),(8,.sl 0 (X.map e2)),(9,.i (1 + (totR L : Int)))],[]⟩ = some (.normal,S1) ∧ ∀ g ∈ ([] : List (Nat × DV)),made S1 g := by
 have n0 : ¬ z < 0 := by omega
 have A := c_toIntSS L (by omega) hR
 have Q := c_eqIntSS_self L (by omega) hR
 have Q0 := c_eqMarkS_self X (by omega)
 have HH := c_heldMarkS X.length 1 (by omega) (by omega) (by omega)
 rw [mk2_mkP] at HH
 have n3 : ¬ 1 + (totR L : Int) < 0 := by omega
 have n4 : ¬ 1 + 2 * (X.length : Int) < 0 := by omega
 have tk : List.take L.length (L.map eN) = L.map eN := List.take_of_length_le (by simp)
 have tk2 : List.take X.length (X.map e2) = X.map e2 := List.take_of_length_le (by simp)
 simp (config := { maxSteps := 2000000 }) [IGroupTerm_11,made,settle,elems,wholeP,DV.allNew,DV.adopt,adoptP,newP,S,n0,A,Q,Q0,HH,n3,n4,tk,tk2,C1,C2]
set_option maxHeartbeats 4000000 in
theorem sGroupTerm_12 {m z : Int} {L : List (List Int)} {X : List T} (z0 : 0 ≤ z) (hL : L.length ≤ 1048576) (hT : totR L ≤ 1048576) (hR : ∀ r ∈ L,(r.length : Int) ≤ 1048576) (hX : X.length ≤ 100) (S : call lf n_laws_szIntSS [.sl 0 (L.map eR),.i 1048576] = some (.i z,[])) (C1 : call lf n_impl_GroupTerm [.i m,.sl 0 (L.map eR)] = some (.fr 2 (X.map e2),[])) (C2 : call lf n_spec_GroupTerm [.i m,.sl 0 (L.map eR)] = some (.fr 2 (X.map e2),[])) : ∃ S1,ex lf IGroupTerm_12 ⟨[(0,.i (m)),(1,.sl 0 (L.map eR)),(6,.sl 0 (X.map e2)),(8,.sl 0 (X.map e2))],[]⟩ = some (.normal,S1) ∧ ∀ g ∈ ([(10,.i (1))] : List (Nat × DV)),made S1 g := by
 have n0 : ¬ z < 0 := by omega
 have A := c_toIntSS L (by omega) hR
 have Q := c_eqIntSS_self L (by omega) hR
 have Q0 := c_eqMarkS_self X (by omega)
 have HH := c_heldMarkS X.length 1 (by omega) (by omega) (by omega)
 rw [mk2_mkP] at HH
 have n3 : ¬ 1 + (totR L : Int) < 0 := by omega
 have n4 : ¬ 1 + 2 * (X.length : Int) < 0 := by omega
 have tk : List.take L.length (L.map eN) = L.map eN := List.take_of_length_le (by simp)
 have tk2 : List.take X.length (X.map e2) = X.map e2 := List.take_of_length_le (by simp)
 simp (config := { maxSteps := 2000000 }) [IGroupTerm_12,made,settle,elems,wholeP,DV.allNew,DV.adopt,adoptP,newP,S,n0,A,Q,Q0,HH,n3,n4,tk,tk2,C1,C2]
set_option maxHeartbeats 4000000 in
theorem sGroupTerm_14 {m z : Int} {L : List (List Int)} {X : List T} (z0 : 0 ≤ z) (hL : L.length ≤ 1048576) (hT : totR L ≤ 1048576) (hR : ∀ r ∈ L,(r.length : Int) ≤ 1048576) (hX : X.length ≤ 100) (S : call lf n_laws_szIntSS [.sl 0 (L.map eR),.i 1048576] = some (.i z,[])) (C1 : call lf n_impl_GroupTerm [.i m,.sl 0 (L.map eR)] = some (.fr 2 (X.map e2),[])) (C2 : call lf n_spec_GroupTerm [.i m,.sl 0 (L.map eR)] = some (.fr 2 (X.map e2),[])) : ∃ S1,ex lf IGroupTerm_14 ⟨[(0,.i (m)),(1,.sl 0 (L.map eR)),(6,.sl 0 (X.map e2)),(8,.sl 0 ((mkP 1 X.length).map e2)),(10,.i (1 + 2 * (X.length : Int)))],[]⟩ = some (.normal,S1) ∧ ∀ g ∈ ([(11,.i (1))] : List (Nat × DV)),made S1 g := by
 have n0 : ¬ z < 0 := by omega
 have A := c_toIntSS L (by omega) hR
 have Q := c_eqIntSS_self L (by omega) hR
 have Q0 := c_eqMarkS_self X (by omega)
 have HH := c_heldMarkS X.length 1 (by omega) (by omega) (by omega)
 rw [mk2_mkP] at HH
 have n3 : ¬ 1 + (totR L : Int) < 0 := by omega
 have n4 : ¬ 1 + 2 * (X.length : Int) < 0 := by omega
 have tk : List.take L.length (L.map eN) = L.map eN := List.take_of_length_le (by simp)
 have tk2 : List.take X.length (X.map e2) = X.map e2 := List.take_of_length_le (by simp)
 simp (config := { maxSteps := 2000000 }) [IGroupTerm_14,made,settle,elems,wholeP,DV.allNew,DV.adopt,adoptP,newP,S,n0,A,Q,Q0,HH,n3,n4,tk,tk2,C1,C2]
set_option maxHeartbeats 4000000 in
theorem sGroupTerm_15 {m z : Int} {L : List (List Int)} {X : List T} (z0 : 0 ≤ z) (hL : L.length ≤ 1048576) (hT : totR L ≤ 1048576) (hR : ∀ r ∈ L,(r.length : Int) ≤ 1048576) (hX : X.length ≤ 100) (S : call lf n_laws_szIntSS [.sl 0 (L.map eR),.i 1048576] = some (.i z,[])) (C1 : call lf n_impl_GroupTerm [.i m,.sl 0 (L.map eR)] = some (.fr 2 (X.map e2),[])) (C2 : call lf n_spec_GroupTerm [.i m,.sl 0 (L.map eR)] = some (.fr 2 (X.map e2),[])) : ∃ S1,ex lf IGroupTerm_15 ⟨[(0,.i (m)),(1,.sl 0 (L.map eR)),(6,.sl 0 (X.map e2)),(8,.sl 0 ((mkP 1 X.length).map e2)),(10,.i (1 + 2 * (X.length : Int))),(11,.i (1))],[]⟩ = some (.normal,S1) ∧ ∀ g ∈ ([(11,.i (1 + 2 * (X.length : Int)))] : List (Nat × DV)),made S1 g := by
 have n0 : ¬ z < 0 := by omega
 have A := c_toIntSS L (by omega) hR
 have Q := c_eqIntSS_self L (by omega) hR
 have Q0 := c_eqMarkS_self X (by omega)
 have HH := c_heldMarkS X.length 1 (by omega) (by omega) (by omega)
 rw [mk2_mkP] at HH
 have n3 : ¬ 1 + (totR L : Int) < 0 := by omega
 have n4 : ¬ 1 + 2 * (X.length : Int) < 0 := by omega
 have tk : List.take L.length (L.map eN) = L.map eN := List.take_of_length_le (by simp)
 have tk2 : List.take X.length (X.map e2) = X.map e2 := List.take_of_length_le (by simp)
 simp (config := { maxSteps := 2000000 }) [IGroupTerm_15,made,settle,elems,wholeP,DV.allNew,DV.adopt,adoptP,newP,S,n0,A,Q,Q0,HH,n3,n4,tk,tk2,C1,C2]
set_option maxHeartbeats 4000000 in
theorem sGroupTerm_16 {m z : Int} {L : List (List Int)} {X : List T} (z0 : 0 ≤ z) (hL : L.length ≤ 1048576) (hT : totR L ≤ 1048576) (hR : ∀ r ∈ L,(r.length : Int) ≤ 1048576) (hX : X.length ≤ 100) (S : call lf n_laws_szIntSS [.sl 0 (L.map eR),.i 1048576] = some (.i z,[])) (C1 : call lf n_impl_GroupTerm [.i m,.sl 0 (L.map eR)] = some (.fr 2 (X.map e2),[])) (C2 : call lf n_spec_GroupTerm [.i m,.sl 0 (L.map eR)] = some (.fr 2 (X.map e2),[])) : ∃ S1,ex lf IGroupTerm_16 ⟨[(0,.i (m)),(1,.sl 0 (L.map eR)),(6,.sl 0 (X.map e2)),(8,.sl 0 ((mkP 1 X.length).map e2)),(10,.i (1 + 2 * (X.length : Int))),(11,.i (1 + 2 * (X.length : Int)))],[]⟩ = some (.normal,S1) ∧ ∀ g ∈ ([] : List (Nat × DV)),made S1 g := by
 have n0 : ¬ z < 0 := by omega
 have A := c_toIntSS L (by omega) hR
 have Q := c_eqIntSS_self L (by omega) hR
 have Q0 := c_eqMarkS_self X (by omega)
 have HH := c_heldMarkS X.length 1 (by omega) (by omega) (by omega)
 rw [mk2_mkP] at HH
 have n3 : ¬ 1 + (totR L : Int) < 0 := by omega
 have n4 : ¬ 1 + 2 * (X.length : Int) < 0 := by omega
 have tk : List.take L.length (L.map eN) = L.map eN := List.take_of_length_le (by simp)
 have tk2 : List.take X.length (X.map e2) = X.map e2 := List.take_of_length_le (by simp)
 simp (config := { maxSteps := 2000000 }) [IGroupTerm_16,made,settle,elems,wholeP,DV.allNew,DV.adopt,adoptP,newP,S,n0,A,Q,Q0,HH,n3,n4,tk,tk2,C1,C2]
set_option maxHeartbeats 4000000 in
theorem sGroupTerm_17 {m z : Int} {L : List (List Int)} {X : List T} (z0 : 0 ≤ z) (hL : L.length ≤ 1048576) (hT : totR L ≤ 1048576) (hR : ∀ r ∈ L,(r.length : Int) ≤ 1048576) (hX : X.length ≤ 100) (S : call lf n_laws_szIntSS [.sl 0 (L.map eR),.i 1048576] = some (.i z,[])) (C1 : call lf n_impl_GroupTerm [.i m,.sl 0 (L.map eR)] = some (.fr 2 (X.map e2),[])) (C2 : call lf n_spec_GroupTerm [.i m,.sl 0 (L.map eR)] = some (.fr 2 (X.map e2),[])) : ∃ S1,ex lf IGroupTerm_17 ⟨[(0,.i (m)),(1,.sl 0 (L.map eR)),(6,.sl 0 (X.map e2)),(8,.sl 0 ((mkP 1 X.length).map e2)),(10,.i (1 + 2 * (X.length : Int))),(11,.i (1 + 2 * (X.length : Int)))],[]⟩ = some (.normal,S1) ∧ ∀ g ∈ ([] : List (Nat × DV)),made S1 g := by
 have n0 : ¬ z < 0 := by omega
 have A := c_toIntSS L (by omega) hR
 have Q := c_eqIntSS_self L (by omega) hR
 have Q0 := c_eqMarkS_self X (by omega)
 have HH := c_heldMarkS X.length 1 (by omega) (by omega) (by omega)
 rw [mk2_mkP] at HH
 have n3 : ¬ 1 + (totR L : Int) < 0 := by omega
 have n4 : ¬ 1 + 2 * (X.length : Int) < 0 := by omega
 have tk : List.take L.length (L.map eN) = L.map eN := List.take_of_length_le (by simp)
 have tk2 : List.take X.length (X.map e2) = X.map e2 := List.take_of_length_le (by simp)
 simp (config := { maxSteps := 2000000 }) [IGroupTerm_17,made,settle,elems,wholeP,DV.allNew,DV.adopt,adoptP,newP,S,n0,A,Q,Q0,HH,n3,n4,tk,tk2,C1,C2]
set_option maxHeartbeats 4000000 in
theorem sGroupTerm_18 {m z : Int} {L : List (List Int)} {X : List T} (z0 : 0 ≤ z) (hL : L.length ≤ 1048576) (hT : totR L ≤ 1048576) (hR : ∀ r ∈ L,(r.length : Int) ≤ 1048576) (hX : X.length ≤ 100) (S : call lf n_laws_szIntSS [.sl 0 (L.map eR),.i 1048576] = some (.i z,[])) (C1 : call lf n_impl_GroupTerm [.i m,.sl 0 (L.map eR)] = some (.fr 2 (X.map e2),[])) (C2 : call lf n_spec_GroupTerm [.i m,.sl 0 (L.map eR)] = some (.fr 2 (X.map e2),[])) : ∃ S1,ex lf IGroupTerm_18 ⟨[(0,.i (m)),(1,.sl 0 (L.map eR)),(6,.sl 0 (X.map e2)),(8,.sl 0 ((mkP 1 X.length).map e2)),(10,.i (1 + 2 * (X.length : Int)))],[]⟩ = some (.normal,S1) ∧ ∀ g ∈ ([(12,.sl 1 (X.map e2))] : List (Nat × DV)),made S1 g := by
 have n0 : ¬ z < 0 := by omega
 have A := c_toIntSS L (by omega) hR
 have Q := c_eqIntSS_self L (by omega) hR
 have Q0 := c_eqMarkS_self X (by omega)
 have HH := c_heldMarkS X.length 1 (by omega) (by omega) (by omega)
 rw [mk2_mkP] at HH
 have n3 : ¬ 1 + (totR L : Int) < 0 := by omega
 have n4 : ¬ 1 + 2 * (X.length : Int) < 0 := by omega
 have tk : List.take L.length (L.map eN) = L.map eN := List.take_of_length_le (by simp)
 have tk2 : List.take X.length (X.map e2) = X.map e2 := List.take_of_length_le (by simp)
 simp (config := { maxSteps := 2000000 }) [IGroupTerm_18,made,settle,elems,wholeP,DV.allNew,DV.adopt,adoptP,newP,S,n0,A,Q,Q0,HH,n3,n4,tk,tk2,C1,C2]
set_option maxHeartbeats 4000000 in
theorem sGroupTerm_19 {m z : Int} {L : List (List Int)} {X : List T} (z0 : 0 ≤ z) (hL : L.length ≤ 1048576) (hT : totR L ≤ 1048576) (hR : ∀ r ∈ L,(r.length : Int) ≤ 1048576) (hX : X.length ≤ 100) (S : call lf n_laws_szIntSS [.sl 0 (L.map eR),.i 1048576] = some (.i z,[])) (C1 : call lf n_impl_GroupTerm [.i m,.sl 0 (L.map eR)] = some (.fr 2 (X.map e2),[])) (C2 : call lf n_spec_GroupTerm [.i m,.sl 0 (L.map eR)] = some (.fr 2 (X.map e2),[])) : ∃ S1,ex lf IGroupTerm_19 ⟨[(6,.sl 0 (X.map e2)),(8,.sl 0 ((mkP 1 X.length).map e2)),(10,.i (1 + 2 * (X.length : Int))),(12,.sl 0 (X.map e2))],[]⟩ = some (.normal,S1) ∧ ∀ g ∈ ([] : List (Nat × DV)),made S1 g := by
 have n0 : ¬ z < 0 := by omega
 have A := c_toIntSS L (by omega) hR
 have Q := c_eqIntSS_self L (by omega) hR
 have Q0 := c_eqMarkS_self X (by omega)
 have HH := c_heldMarkS X.length 1 (by omega) (by omega) (by omega)
 rw [mk2_mkP] at HH
 have n3 : ¬ 1 + (totR L : Int) < 0 := by omega
 have n4 : ¬ 1 + 2 * (X.length : Int) < 0 := by omega
 have tk : List.take L.length (L.map eN) = L.map eN := List.take_of_length_le (by simp)
 have tk2 : List.take X.length (X.map e2) = X.map e2 := List.take_of_length_le (by simp)
 simp (config := { maxSteps := 2000000 }) [IGroupTerm_19,made,settle,elems,wholeP,DV.allNew,DV.adopt,adoptP,newP,S,n0,A,Q,Q0,HH,n3,n4,tk,tk2,C1,C2]
set_option maxHeartbeats 4000000 in
theorem sGroupTerm_20 {m z : Int} {L : List (List Int)} {X : List T} (z0 : 0 ≤ z) (hL : L.length ≤ 1048576) (hT : totR L ≤ 1048576) (hR : ∀ r ∈ L,(r.length : Int) ≤ 1048576) (hX : X.length ≤ 100) (S : call lf n_laws_szIntSS [.sl 0 (L.map eR),.i 1048576] = some (.i z,[])) (C1 : call lf n_impl_GroupTerm [.i m,.sl 0 (L.map eR)] = some (.fr 2 (X.map e2),[])) (C2 : call lf n_spec_GroupTerm [.i m,.sl 0 (L.map eR)] = some (.fr 2 (X.map e2),[])) : ∃ S1,ex lf IGroupTerm_20 ⟨[(8,.sl 0 ((mkP 1 X.length).map e2)),(10,.i (1 + 2 * (X.length : Int)))],[]⟩ = some (.normal,S1) ∧ ∀ g ∈ ([(11,.i (1))] : List (Nat × DV)),made S1 g := by
 have n0 : ¬ z < 0 := by omega
 have A := c_toIntSS L (by omega) hR
 have Q := c_eqIntSS_self L (by omega) hR
 have Q0 := c_eqMarkS_self X (by omega)
 have HH := c_heldMarkS X.length 1 (by omega) (by omega) (by omega)
 rw [mk2_mkP] at HH
 have n3 : ¬ 1 + (totR L : Int) < 0 := by omega
 have n4 : ¬ 1 + 2 * (X.length : Int) < 0 := by omega
 have tk : List.take L.length (L.map eN) = L.map eN := List.take_of_length_le (by simp)
 have tk2 : List.take X.length (X.map e2) = X.map e2 := List.take_of_length_le (by simp)
 simp (config := { maxSteps := 2000000 }) [IGroupTerm_20,made,settle,elems,wholeP,DV.allNew,DV.adopt,adoptP,newP,S,n0,A,Q,Q0,HH,n3,n4,tk,tk2,C1,C2]
set_option maxHeartbeats 4000000 in
theorem sGroupTerm_21 {m z : Int} {L : List (List Int)} {X : List T} (z0 : 0 ≤ z) (hL : L.length ≤ 1048576) (hT : totR L ≤ 1048576) (hR : ∀ r ∈ L,(r.length : Int) ≤ 1048576) (hX : X.length ≤ 100) (S : call lf n_laws_szIntSS [.sl 0 (L.map eR),.i 1048576] = some (.i z,[])) (C1 : call lf n_impl_GroupTerm [.i m,.sl 0 (L.map eR)] = some (.fr 2 (X.map e2),[])) (C2 : call lf n_spec_GroupTerm [.i m,.sl 0 (L.map eR)] = some (.fr 2 (X.map e2),[])) : ∃ S1,ex lf IGroupTerm_21 ⟨[(8,.sl 0 ((mkP 1 X.length).map e2)),(10,.i (1 + 2 * (X.length : Int))),(11,.i (1))],[]⟩ = some (.normal,S1) ∧ ∀ g ∈ ([(11,.i (1 + 2 * (X.length : Int)))] : List (Nat × DV)),made S1 g := by
 have n0 : ¬ z < 0 := by omega
 have A := c_toIntSS L (by omega) hR
 have Q := c_eqIntSS_self L (by omega) hR
 have Q0 := c_eqMarkS_self X (by omega)
 have HH := c_heldMarkS X.length 1 (by omega) (by omega) (by omega)
 rw [mk2_mkP] at HH
 have n3 : ¬ 1 + (totR L : Int) < 0 := by omega
 have n4 : ¬ 1 + 2 * (X.length : Int) < 0 := by omega
 have tk : List.take L.length (L.map eN) = L.map eN := List.take_of_length_le (by simp)
 have tk2 : List.take X.length (X.map e2) = X.map e2 := List.take_of_length_le (by simp)
 simp (config := { maxSteps := 2000000 }) [IGroupTerm_21,made,settle,elems,wholeP,DV.allNew,DV.adopt,adoptP,newP,S,n0,A,Q,Q0,HH,n3,n4,tk,tk2,C1,C2]
set_option maxHeartbeats 4000000 in
theorem sGroupTerm_22 {m z : Int} {L : List (List Int)} {X : List T} (z0 : 0 ≤ z) (hL : L.length ≤ 1048576) (hT : totR L ≤ 1048576) (hR : ∀ r ∈ L,(r.length : Int) ≤ 1048576) (hX : X.length ≤ 100) (S : call lf n_laws_szIntSS [.sl 0 (L.map eR),.i 1048576] = some (.i z,[])) (C1 : call lf n_impl_GroupTerm [.i m,.sl 0 (L.map eR)] = some (.fr 2 (X.map e2),[])) (C2 : call lf n_spec_GroupTerm [.i m,.sl 0 (L.map eR)] = some (.fr 2 (X.map e2),[])) : ∃ S1,ex lf IGroupTerm_22 ⟨[(10,.i (1 + 2 * (X.length : Int))),(11,.i (1 + 2 * (X.length : Int)))],[]⟩ = some (.normal,S1) ∧ ∀ g ∈ ([] : List (Nat × DV)),made S1 g := by
 have n0 : ¬ z < 0 := by omega
 have A := c_toIntSS L (by omega) hR
 have Q := c_eqIntSS_self L (by omega) hR
 have Q0 := c_eqMarkS_self X (by omega)
 have HH := c_heldMarkS X.length 1 (by omega) (by omega) (by omega)
 rw [mk2_mkP] at HH
 have n3 : ¬ 1 + (totR L : Int) < 0 := by omega
 have n4 : ¬ 1 + 2 * (X.length : Int) < 0 := by omega
 have tk : List.take L.length (L.map eN) = L.map eN := List.take_of_length_le (by simp)
 have tk2 : List.take X.length (X.map e2) = X.map e2 := List.take_of_length_le (by simp)
 simp (config := { maxSteps := 2000000 }) [IGroupTerm_22,made,settle,elems,wholeP,DV.allNew,DV.adopt,adoptP,newP,S,n0,A,Q,Q0,HH,n3,n4,tk,tk2,C1,C2]
set_option maxHeartbeats 4000000 in
theorem sGroupTerm_23 {m z : Int} {L : List (List Int)} {X : List T} (z0 : 0 ≤ z) (hL : L.length ≤ 1048576) (hT : totR L ≤ 1048576) (hR : ∀ r ∈ L,(r.length : Int) ≤ 1048576) (hX : X.length ≤ 100) (S : call lf n_laws_szIntSS [.sl 0 (L.map eR),.i 1048576] = some (.i z,[])) (C1 : call lf n_impl_GroupTerm [.i m,.sl 0 (L.map eR)] = some (.fr 2 (X.map e2),[])) (C2 : call lf n_spec_GroupTerm [.i m,.sl 0 (L.map eR)] = some (.fr 2 (X.map e2),[])) : ∃ S1,ex lf IGroupTerm_23 ⟨[(10,.i (1 + 2 * (X.length : Int))),(11,.i (1 + 2 * (X.length : Int)))],[]⟩ = some (.normal,S1) ∧ ∀ g ∈ ([] : List (Nat × DV)),made S1 g := by
 have n0 : ¬ z < 0 := by omega
 have A := c_toIntSS L (by omega) hR
 have Q := c_eqIntSS_self L (by omega) hR
 have Q0 := c_eqMarkS_self X (by omega)
 have HH := c_heldMarkS X.length 1 (by omega) (by omega) (by omega)
 rw [mk2_mkP] at HH
 have n3 : ¬ 1 + (totR L : Int) < 0 := by omega
 have n4 : ¬ 1 + 2 * (X.length : Int) < 0 := by omega
 have tk : List.take L.length (L.map eN) = L.map eN := List.take_of_length_le (by simp)
 have tk2 : List.take X.length (X.map e2) = X.map e2 := List.take_of_length_le (by simp)
 simp (config := { maxSteps := 2000000 }) [IGroupTerm_23,made,settle,elems,wholeP,DV.allNew,DV.adopt,adoptP,newP,S,n0,A,Q,Q0,HH,n3,n4,tk,tk2,C1,C2]
set_option maxHeartbeats 4000000 in
theorem sGroupTerm_24 {m z : Int} {L : List (List Int)} {X : List T} (z0 : 0 ≤ z) (hL : L.length ≤ 1048576) (hT : totR L ≤ 1048576) (hR : ∀ r ∈ L,(r.length : Int) ≤ 1048576) (hX : X.length ≤ 100) (S : call lf n_laws_szIntSS [.sl 0 (L.map eR),.i 1048576] = some (.i z,[])) (C1 : call lf n_impl_GroupTerm [.i m,.sl 0 (L.map eR)] = some (.fr 2 (X.map e2),[])) (C2 : call lf n_spec_GroupTerm [.i m,.sl 0 (L.map eR)] = some (.fr 2 (X.map e2),[])) : ∃ S1,ex lf IGroupTerm_24 ⟨[],[]⟩ = some (.normal,S1) ∧ ∀ g ∈ ([(4,.b true)] : List (Nat × DV)),made S1 g := by
 have n0 : ¬ z < 0 := by omega
 have A := c_toIntSS L (by omega) hR
 have Q := c_eqIntSS_self L (by omega) hR
 have Q0 := c_eqMarkS_self X (by omega)
 have HH := c_heldMarkS X.length 1 (by omega) (by omega) (by omega)
 rw [mk2_mkP] at HH
 have n3 : ¬ 1 + (totR L : Int) < 0 := by omega
 have n4 : ¬ 1 + 2 * (X.length : Int) < 0 := by omega
 have tk : List.take L.length (L.map eN) = L.map eN := List.take_of_length_le (by simp)
 have tk2 : List.take X.length (X.map e2) = X.map e2 := List.take_of_length_le (by simp)
 simp (config := { maxSteps := 2000000 }) [IGroupTerm_24,made,settle,elems,wholeP,DV.allNew,DV.adopt,adoptP,newP,S,n0,A,Q,Q0,HH,n3,n4,tk,tk2,C1,C2]
section
variable {P : Go.Program} {dc : Array Go.Oper → Bool}
set_option maxHeartbeats 4000000 in
theorem law_FnExactGroupTerm (hok : ∀ f F,lf f = some F → OkF P dc f F) (hD : ∀ Γ,FnSound P Γ → DrawOk P Γ dc) (hB : BackSound P) (m : Int) (_ : -9223372036854775808 ≤ m ∧ m ≤ 9223372036854775807) (L : List (List Int)) (hL0 : L.length ≤ Go.maxLen ∧ ∀ r ∈ L,r.length ≤ Go.maxLen) {w : Go.World} (hg : GlobC ⟨w,fun _ => True,[]⟩) {v1 : Go.Value} (h1 : CR w w.heap.size (okb (fun _ => True) w.heap.size fun _ => none) (rss L) v1) :
  Go.Calls P n_laws_FnExactGroupTerm #[.int .i64 m,v1] w fun e w' => e = .returned (.bool true) ∧ Go.RowKit.Below w.heap.size w w' := by
 have hS : ∀ n,CallOk P (callN lf n) := fun n => callOk_of (callN_sound hok hD hB n)
 rcases c_szIntSS L 1048576 (by omega) hL0.1 hL0.2 with S | ⟨z,z0,z1,zL,zF,S⟩
 ·have C : call lf n_laws_FnExactGroupTerm [.i m,rss L] = some (.b true,[]) := by
   show call lf n_laws_FnExactGroupTerm [.i m,.sl 0 (L.map eR)] = _
   rw [call_k lf n_laws_FnExactGroupTerm _ (F := F_laws_FnExactGroupTerm) rfl rfl]
   simp [F_laws_FnExactGroupTerm,S]
  exact law_calls (call_sound hok hD hB C) (entry_top hg rfl (by simp [rs2,rss,refW]) (fun j d u hd hu => by
   match j,hd,hu with
   | 0,hd,hu => simp at hd hu; subst hd; subst hu; exact .cr _ _ (.i _)
   | 1,hd,hu => simp at hd hu; subst hd; subst hu; exact .cr _ _ h1
   | j + 2,hd,hu => simp at hd))
 have hT : totR L ≤ 1048576 := by rw [totR_flat]; omega
 have hL : L.length ≤ 1048576 := by omega
 have hR : ∀ r ∈ L,(r.length : Int) ≤ 1048576 := fun r hr => by
  obtain ⟨i,hi⟩ := List.mem_iff_getElem?.1 hr
  have := totR_mem L i r hi
  omega
 have C1 := c_impl_GroupTerm m L (by omega)
 have C2 := c_spec_GroupTerm m L (by omega) (by omega)
 have hX : (gtL m L).length ≤ 100 := by have := gtL_le m L; omega
 generalize gtL m L = X at *
 refine law_start hok (F := F_laws_FnExactGroupTerm) rfl rfl rfl rfl hg (fs := [⟨0,w.heap.size,fun b => b < w.heap.size,.i (m)⟩,⟨1,w.heap.size,fun b => b < w.heap.size,rss L⟩]) (by
  intro f hf
  simp only [List.mem_cons,List.not_mem_nil,or_false] at hf
  rcases hf with rfl | rfl
  ·exact ⟨.inl (.i _),by show (0 : Nat) < 2; omega⟩
  ·exact ⟨in_fact h1 (by simp [rss,DV.allOld,al_eR]),by show (1 : Nat) < 2; omega⟩) (fun N code a0 hv hc hs0 => ?_)
 rw [body_GroupTerm] at hv
 refine hs0.base hS (l1 := IGroupTerm_0) (l2 := RGroupTerm_1) hv hc rfl [⟨0,w.heap.size,fun b => b < w.heap.size,.i (m)⟩,⟨1,w.heap.size,fun b => b < w.heap.size,rss L⟩] (by
  intro f hf
  simp only [List.mem_cons,List.not_mem_nil,or_false] at hf
  rcases hf with rfl | rfl <;> exact ⟨by simp,by dsimp only; decide⟩) [] (by
  simp only [envF,List.map_cons,List.map_nil,DV.lend,rs2,rss,lend_e2,lend_eN,lend_eR,lend_e3,lend_ints_]
  exact sGroupTerm_0 z0 hL hT hR hX S C1 C2) (fun c1 a1 w1 hv1 hc1 hz1 hs1 => ?_)
 replace hs1 := hs1.sub (gs := [⟨0,w.heap.size,fun b => b < w.heap.size,.i (m)⟩,⟨1,w.heap.size,fun b => b < w.heap.size,rss L⟩]) (by
  intro g hg
  refine hs1.so g ?_
  simp only [List.cons_append,List.nil_append,List.map_cons,List.map_nil,newF]
  simp only [List.mem_cons,List.not_mem_nil,or_false] at hg ⊢
  rcases hg with rfl | rfl <;> simp)
 refine hs1.base hS (l1 := IGroupTerm_1) (l2 := RGroupTerm_2) hv1 hc1 rfl [⟨0,w.heap.size,fun b => b < w.heap.size,.i (m)⟩,⟨1,w.heap.size,fun b => b < w.heap.size,rss L⟩] (by
  intro f hf
  simp only [List.mem_cons,List.not_mem_nil,or_false] at hf
  rcases hf with rfl | rfl <;> exact ⟨by simp,by dsimp only; decide⟩) [(5,.i (1048576))] (by
  simp only [envF,List.map_cons,List.map_nil,DV.lend,rs2,rss,lend_e2,lend_eN,lend_eR,lend_e3,lend_ints_]
  exact sGroupTerm_1 z0 hL hT hR hX S C1 C2) (fun c2 a2 w2 hv2 hc2 hz2 hs2 => ?_)
 replace hs2 := hs2.sub (gs := [⟨0,w.heap.size,fun b => b < w.heap.size,.i (m)⟩,⟨1,w.heap.size,fun b => b < w.heap.size,rss L⟩,⟨5,w1.heap.size,fun b => w1.heap.size ≤ b ∧ b < w2.heap.size,.i (1048576)⟩]) (by
  intro g hg
  refine hs2.so g ?_
  simp only [List.cons_append,List.nil_append,List.map_cons,List.map_nil,newF]
  simp only [List.mem_cons,List.not_mem_nil,or_false] at hg ⊢
  rcases hg with rfl | rfl | rfl <;> simp)
 refine hs2.base hS (l1 := IGroupTerm_2) (l2 := RGroupTerm_3) hv2 hc2 rfl [⟨0,w.heap.size,fun b => b < w.heap.size,.i (m)⟩,⟨1,w.heap.size,fun b => b < w.heap.size,rss L⟩] (by
  intro f hf
  simp only [List.mem_cons,List.not_mem_nil,or_false] at hf
  rcases hf with rfl | rfl <;> exact ⟨by simp,by dsimp only; decide⟩) [(5,.i (z))] (by
  simp only [envF,List.map_cons,List.map_nil,DV.lend,rs2,rss,lend_e2,lend_eN,lend_eR,lend_e3,lend_ints_]
  exact sGroupTerm_2 z0 hL hT hR hX S C1 C2) (fun c3 a3 w3 hv3 hc3 hz3 hs3 => ?_)
 replace hs3 := hs3.sub (gs := [⟨0,w.heap.size,fun b => b < w.heap.size,.i (m)⟩,⟨1,w.heap.size,fun b => b < w.heap.size,rss L⟩,⟨5,w2.heap.size,fun b => w2.heap.size ≤ b ∧ b < w3.heap.size,.i (z)⟩]) (by
  intro g hg
  refine hs3.so g ?_
  simp only [List.cons_append,List.nil_append,List.map_cons,List.map_nil,newF]
  simp only [List.mem_cons,List.not_mem_nil,or_false] at hg ⊢
  rcases hg with rfl | rfl | rfl <;> simp)
 refine hs3.base hS (l1 := IGroupTerm_3) (l2 := RGroupTerm_4) hv3 hc3 rfl [⟨0,w.heap.size,fun b => b < w.heap.size,.i (m)⟩,⟨1,w.heap.size,fun b => b < w.heap.size,rss L⟩] (by
  intro f hf
  simp only [List.mem_cons,List.not_mem_nil,or_false] at hf
  rcases hf with rfl | rfl <;> exact ⟨by simp,by dsimp only; decide⟩) [] (by
  simp only [envF,List.map_cons,List.map_nil,DV.lend,rs2,rss,lend_e2,lend_eN,lend_eR,lend_e3,lend_ints_]
  exact sGroupTerm_3 z0 hL hT hR hX S C1 C2) (fun c4 a4 w4 hv4 hc4 hz4 hs4 => ?_)
 replace hs4 := hs4.sub (gs := [⟨0,w.heap.size,fun b => b < w.heap.size,.i (m)⟩,⟨1,w.heap.size,fun b => b < w.heap.size,rss L⟩]) (by
  intro g hg
  refine hs4.so g ?_
  simp only [List.cons_append,List.nil_append,List.map_cons,List.map_nil,newF]
  simp only [List.mem_cons,List.not_mem_nil,or_false] at hg ⊢
  rcases hg with rfl | rfl <;> simp)
 refine hs4.base hS (l1 := IGroupTerm_4) (l2 := RGroupTerm_5) hv4 hc4 rfl [⟨0,w.heap.size,fun b => b < w.heap.size,.i (m)⟩,⟨1,w.heap.size,fun b => b < w.heap.size,rss L⟩] (by
  intro f hf
  simp only [List.mem_cons,List.not_mem_nil,or_false] at hf
  rcases hf with rfl | rfl <;> exact ⟨by simp,by dsimp only; decide⟩) [(6,.sl 1 (X.map e2))] (by
  simp only [envF,List.map_cons,List.map_nil,DV.lend,rs2,rss,lend_e2,lend_eN,lend_eR,lend_e3,lend_ints_]
  exact sGroupTerm_4 z0 hL hT hR hX S C1 C2) (fun c5 a5 w5 hv5 hc5 hz5 hs5 => ?_)
 replace hs5 := hs5.sub (gs := [⟨0,w.heap.size,fun b => b < w.heap.size,.i (m)⟩,⟨1,w.heap.size,fun b => b < w.heap.size,rss L⟩,⟨6,w4.heap.size,fun b => w4.heap.size ≤ b ∧ b < w5.heap.size,.sl 1 (X.map e2)⟩]) (by
  intro g hg
  refine hs5.so g ?_
  simp only [List.cons_append,List.nil_append,List.map_cons,List.map_nil,newF]
  simp only [List.mem_cons,List.not_mem_nil,or_false] at hg ⊢
  rcases hg with rfl | rfl | rfl <;> simp)
 refine hs5.base hS (l1 := IGroupTerm_5) (l2 := RGroupTerm_6) hv5 hc5 rfl [⟨0,w.heap.size,fun b => b < w.heap.size,.i (m)⟩,⟨1,w.heap.size,fun b => b < w.heap.size,rss L⟩,⟨6,w4.heap.size,fun b => w4.heap.size ≤ b ∧ b < w5.heap.size,.sl 1 (X.map e2)⟩] (by
  intro f hf
  simp only [List.mem_cons,List.not_mem_nil,or_false] at hf
  rcases hf with rfl | rfl | rfl <;> exact ⟨by simp,by dsimp only; decide⟩) [(7,.sl 1 (L.map eN))] (by
  simp only [envF,List.map_cons,List.map_nil,DV.lend,rs2,rss,lend_e2,lend_eN,lend_eR,lend_e3,lend_ints_]
  exact sGroupTerm_5 z0 hL hT hR hX S C1 C2) (fun c6 a6 w6 hv6 hc6 hz6 hs6 => ?_)
 replace hs6 := hs6.sub (gs := [⟨0,w.heap.size,fun b => b < w.heap.size,.i (m)⟩,⟨1,w.heap.size,fun b => b < w.heap.size,rss L⟩,⟨6,w4.heap.size,fun b => w4.heap.size ≤ b ∧ b < w5.heap.size,.sl 1 (X.map e2)⟩,⟨7,w5.heap.size,fun b => w5.heap.size ≤ b ∧ b < w6.heap.size,.sl 1 (L.map eN)⟩]) (by
  intro g hg
  refine hs6.so g ?_
  simp only [List.cons_append,List.nil_append,List.map_cons,List.map_nil,newF]
  simp only [List.mem_cons,List.not_mem_nil,or_false] at hg ⊢
  rcases hg with rfl | rfl | rfl | rfl <;> simp)
 refine hs6.base hS (l1 := IGroupTerm_6) (l2 := RGroupTerm_7) hv6 hc6 rfl [⟨0,w.heap.size,fun b => b < w.heap.size,.i (m)⟩,⟨1,w.heap.size,fun b => b < w.heap.size,rss L⟩,⟨6,w4.heap.size,fun b => w4.heap.size ≤ b ∧ b < w5.heap.size,.sl 1 (X.map e2)⟩,⟨7,w5.heap.size,fun b => w5.heap.size ≤ b ∧ b < w6.heap.size,.sl 1 (L.map eN)⟩] (by
  intro f hf
  simp only [List.mem_cons,List.not_mem_nil,or_false] at hf
  rcases hf with rfl | rfl | rfl | rfl <;> exact ⟨by simp,by dsimp only; decide⟩) [(8,.sl 1 (X.map e2))] (by
  simp only [envF,List.map_cons,List.map_nil,DV.lend,rs2,rss,lend_e2,lend_eN,lend_eR,lend_e3,lend_ints_]
  exact sGroupTerm_6 z0 hL hT hR hX S C1 C2) (fun c7 a7 w7 hv7 hc7 hz7 hs7 => ?_)
 replace hs7 := hs7.sub (gs := [⟨0,w.heap.size,fun b => b < w.heap.size,.i (m)⟩,⟨1,w.heap.size,fun b => b < w.heap.size,rss L⟩,⟨6,w4.heap.size,fun b => w4.heap.size ≤ b ∧ b < w5.heap.size,.sl 1 (X.map e2)⟩,⟨7,w5.heap.size,fun b => w5.heap.size ≤ b ∧ b < w6.heap.size,.sl 1 (L.map eN)⟩,⟨8,w6.heap.size,fun b => w6.heap.size ≤ b ∧ b < w7.heap.size,.sl 1 (X.map e2)⟩]) (by
  intro g hg
  refine hs7.so g ?_
  simp only [List.cons_append,List.nil_append,List.map_cons,List.map_nil,newF]
  simp only [List.mem_cons,List.not_mem_nil,or_false] at hg ⊢
  rcases hg with rfl | rfl | rfl | rfl | rfl <;> simp)
 refine hs7.base hS (l1 := IGroupTerm_7) (l2 := RGroupTerm_8) hv7 hc7 rfl [⟨0,w.heap.size,fun b => b < w.heap.size,.i (m)⟩,⟨1,w.heap.size,fun b => b < w.heap.size,rss L⟩,⟨6,w4.heap.size,fun b => w4.heap.size ≤ b ∧ b < w5.heap.size,.sl 1 (X.map e2)⟩,⟨7,w5.heap.size,fun b => w5.heap.size ≤ b ∧ b < w6.heap.size,.sl 1 (L.map eN)⟩,⟨8,w6.heap.size,fun b => w6.heap.size ≤ b ∧ b < w7.heap.size,.sl 1 (X.map e2)⟩] (by
  intro f hf
  simp only [List.mem_cons,List.not_mem_nil,or_false] at hf
  rcases hf with rfl | rfl | rfl | rfl | rfl <;> exact ⟨by simp,by dsimp only; decide⟩) [] (by
  simp only [envF,List.map_cons,List.map_nil,DV.lend,rs2,rss,lend_e2,lend_eN,lend_eR,lend_e3,lend_ints_]
  exact sGroupTerm_7 z0 hL hT hR hX S C1 C2) (fun c8 a8 w8 hv8 hc8 hz8 hs8 => ?_)
 replace hs8 := hs8.sub (gs := [⟨0,w.heap.size,fun b => b < w.heap.size,.i (m)⟩,⟨1,w.heap.size,fun b => b < w.heap.size,rss L⟩,⟨6,w4.heap.size,fun b => w4.heap.size ≤ b ∧ b < w5.heap.size,.sl 1 (X.map e2)⟩,⟨7,w5.heap.size,fun b => w5.heap.size ≤ b ∧ b < w6.heap.size,.sl 1 (L.map eN)⟩,⟨8,w6.heap.size,fun b => w6.heap.size ≤ b ∧ b < w7.heap.size,.sl 1 (X.map e2)⟩]) (by
  intro g hg
  refine hs8.so g ?_
  simp only [List.cons_append,List.nil_append,List.map_cons,List.map_nil,newF]
  simp only [List.mem_cons,List.not_mem_nil,or_false] at hg ⊢
  rcases hg with rfl | rfl | rfl | rfl | rfl <;> simp)
 refine hs8.base hS (l1 := IGroupTerm_8) (l2 := RGroupTerm_9) hv8 hc8 rfl [⟨0,w.heap.size,fun b => b < w.heap.size,.i (m)⟩,⟨1,w.heap.size,fun b => b < w.heap.size,rss L⟩,⟨6,w4.heap.size,fun b => w4.heap.size ≤ b ∧ b < w5.heap.size,.sl 1 (X.map e2)⟩,⟨7,w5.heap.size,fun b => w5.heap.size ≤ b ∧ b < w6.heap.size,.sl 1 (L.map eN)⟩,⟨8,w6.heap.size,fun b => w6.heap.size ≤ b ∧ b < w7.heap.size,.sl 1 (X.map e2)⟩] (by
  intro f hf
  simp only [List.mem_cons,List.not_mem_nil,or_false] at hf
  rcases hf with rfl | rfl | rfl | rfl | rfl <;> exact ⟨by simp,by dsimp only; decide⟩) [] (by
  simp only [envF,List.map_cons,List.map_nil,DV.lend,rs2,rss,lend_e2,lend_eN,lend_eR,lend_e3,lend_ints_]
  exact sGroupTerm_8 z0 hL hT hR hX S C1 C2) (fun c9 a9 w9 hv9 hc9 hz9 hs9 => ?_)
 replace hs9 := hs9.sub (gs := [⟨0,w.heap.size,fun b => b < w.heap.size,.i (m)⟩,⟨1,w.heap.size,fun b => b < w.heap.size,rss L⟩,⟨6,w4.heap.size,fun b => w4.heap.size ≤ b ∧ b < w5.heap.size,.sl 1 (X.map e2)⟩,⟨7,w5.heap.size,fun b => w5.heap.size ≤ b ∧ b < w6.heap.size,.sl 1 (L.map eN)⟩,⟨8,w6.heap.size,fun b => w6.heap.size ≤ b ∧ b < w7.heap.size,.sl 1 (X.map e2)⟩]) (by
  intro g hg
  refine hs9.so g ?_
  simp only [List.cons_append,List.nil_append,List.map_cons,List.map_nil,newF]
  simp only [List.mem_cons,List.not_mem_nil,or_false] at hg ⊢
  rcases hg with rfl | rfl | rfl | rfl | rfl <;> simp)
 refine hs9.base hS (l1 := IGroupTerm_9) (l2 := RGroupTerm_10) hv9 hc9 rfl [⟨0,w.heap.size,fun b => b < w.heap.size,.i (m)⟩,⟨1,w.heap.size,fun b => b < w.heap.size,rss L⟩,⟨6,w4.heap.size,fun b => w4.heap.size ≤ b ∧ b < w5.heap.size,.sl 1 (X.map e2)⟩,⟨7,w5.heap.size,fun b => w5.heap.size ≤ b ∧ b < w6.heap.size,.sl 1 (L.map eN)⟩,⟨8,w6.heap.size,fun b => w6.heap.size ≤ b ∧ b < w7.heap.size,.sl 1 (X.map e2)⟩] (by
  intro f hf
  simp only [List.mem_cons,List.not_mem_nil,or_false] at hf
  rcases hf with rfl | rfl | rfl | rfl | rfl <;> exact ⟨by simp,by dsimp only; decide⟩) [(9,.i (1))] (by
  simp only [envF,List.map_cons,List.map_nil,DV.lend,rs2,rss,lend_e2,lend_eN,lend_eR,lend_e3,lend_ints_]
  exact sGroupTerm_9 z0 hL hT hR hX S C1 C2) (fun c10 a10 w10 hv10 hc10 hz10 hs10 => ?_)
 replace hs10 := hs10.sub (gs := [⟨0,w.heap.size,fun b => b < w.heap.size,.i (m)⟩,⟨1,w.heap.size,fun b => b < w.heap.size,rss L⟩,⟨6,w4.heap.size,fun b => w4.heap.size ≤ b ∧ b < w5.heap.size,.sl 1 (X.map e2)⟩,⟨7,w5.heap.size,fun b => w5.heap.size ≤ b ∧ b < w6.heap.size,.sl 1 (L.map eN)⟩,⟨8,w6.heap.size,fun b => w6.heap.size ≤ b ∧ b < w7.heap.size,.sl 1 (X.map e2)⟩,⟨9,w9.heap.size,fun b => w9.heap.size ≤ b ∧ b < w10.heap.size,.i (1)⟩]) (by
  intro g hg
  refine hs10.so g ?_
  simp only [List.cons_append,List.nil_append,List.map_cons,List.map_nil,newF]
  simp only [List.mem_cons,List.not_mem_nil,or_false] at hg ⊢
  rcases hg with rfl | rfl | rfl | rfl | rfl | rfl <;> simp)
 refine hs10.markS hv10 hc10 (x := 7) (x2 := 36) (k := 9) (k2 := 37) (r := 38) (l2 := RGroupTerm_11) (List.mem_of_getElem? (i := 3) rfl) (List.mem_of_getElem? (i := 5) rfl) (rows_markIntSS hok hD hB L 1 (by omega) (by omega) (by omega) hT) (by omega) (fun b h => h.1) (by decide) [⟨0,w.heap.size,fun b => b < w.heap.size,.i (m)⟩,⟨1,w.heap.size,fun b => b < w.heap.size,rss L⟩,⟨6,w4.heap.size,fun b => w4.heap.size ≤ b ∧ b < w5.heap.size,.sl 1 (X.map e2)⟩,⟨8,w6.heap.size,fun b => w6.heap.size ≤ b ∧ b < w7.heap.size,.sl 1 (X.map e2)⟩] (by
  intro g hg
  simp only [List.mem_cons,List.not_mem_nil,or_false] at hg
  rcases hg with rfl | rfl | rfl | rfl <;> exact ⟨by simp,by dsimp only; decide,by dsimp only; decide,by dsimp only; decide,by dsimp only; decide⟩) (by
  intro g hg b h1 h2
  simp only [List.mem_cons,List.not_mem_nil,or_false] at hg
  rcases hg with rfl | rfl | rfl | rfl <;> simp only at h1 h2 <;> omega) (fun c11 a11 w11 d11 hv11 hc11 hz11 hR11 hs11 => ?_)
 have hs11 := hs11.sub (gs := [⟨9,w9.heap.size,fun b => w9.heap.size ≤ b ∧ b < w10.heap.size,.i (1 + (totR L : Int))⟩,⟨0,w.heap.size,fun b => b < w.heap.size,.i (m)⟩,⟨1,w.heap.size,fun b => b < w.heap.size,rss L⟩,⟨6,w4.heap.size,fun b => w4.heap.size ≤ b ∧ b < w5.heap.size,.sl 1 (X.map e2)⟩,⟨8,w6.heap.size,fun b => w6.heap.size ≤ b ∧ b < w7.heap.size,.sl 1 (X.map e2)⟩]) (fun g hg => hs11.so g (List.mem_cons_of_mem _ hg))
 replace hs11 := hs11.sub (gs := [⟨0,w.heap.size,fun b => b < w.heap.size,.i (m)⟩,⟨1,w.heap.size,fun b => b < w.heap.size,rss L⟩,⟨6,w4.heap.size,fun b => w4.heap.size ≤ b ∧ b < w5.heap.size,.sl 1 (X.map e2)⟩,⟨8,w6.heap.size,fun b => w6.heap.size ≤ b ∧ b < w7.heap.size,.sl 1 (X.map e2)⟩,⟨9,w9.heap.size,fun b => w9.heap.size ≤ b ∧ b < w10.heap.size,.i (1 + (totR L : Int))⟩]) (by
  intro g hg
  refine hs11.so g ?_
  simp only [List.mem_cons,List.not_mem_nil,or_false] at hg ⊢
  rcases hg with rfl | rfl | rfl | rfl | rfl <;> simp)
 refine hs11.base hS (l1 := IGroupTerm_11) (l2 := RGroupTerm_12) hv11 hc11 rfl [⟨0,w.heap.size,fun b => b < w.heap.size,.i (m)⟩,⟨1,w.heap.size,fun b => b < w.heap.size,rss L⟩,⟨6,w4.heap.size,fun b => w4.heap.size ≤ b ∧ b < w5.heap.size,.sl 1 (X.map e2)⟩,⟨8,w6.heap.size,fun b => w6.heap.size ≤ b ∧ b < w7.heap.size,.sl 1 (X.map e2)⟩] (by
  intro f hf
  simp only [List.mem_cons,List.not_mem_nil,or_false] at hf
  rcases hf with rfl | rfl | rfl | rfl <;> exact ⟨by simp,by dsimp only; decide⟩) [] (by
  simp only [envF,List.map_cons,List.map_nil,DV.lend,rs2,rss,lend_e2,lend_eN,lend_eR,lend_e3,lend_ints_]
  exact sGroupTerm_11 z0 hL hT hR hX S C1 C2) (fun c12 a12 w12 hv12 hc12 hz12 hs12 => ?_)
 replace hs12 := hs12.sub (gs := [⟨0,w.heap.size,fun b => b < w.heap.size,.i (m)⟩,⟨1,w.heap.size,fun b => b < w.heap.size,rss L⟩,⟨6,w4.heap.size,fun b => w4.heap.size ≤ b ∧ b < w5.heap.size,.sl 1 (X.map e2)⟩,⟨8,w6.heap.size,fun b => w6.heap.size ≤ b ∧ b < w7.heap.size,.sl 1 (X.map e2)⟩]) (by
  intro g hg
  refine hs12.so g ?_
  simp only [List.cons_append,List.nil_append,List.map_cons,List.map_nil,newF]
  simp only [List.mem_cons,List.not_mem_nil,or_false] at hg ⊢
  rcases hg with rfl | rfl | rfl | rfl <;> simp)
 refine hs12.base hS (l1 := IGroupTerm_12) (l2 := RGroupTerm_13) hv12 hc12 rfl [⟨0,w.heap.size,fun b => b < w.heap.size,.i (m)⟩,⟨1,w.heap.size,fun b => b < w.heap.size,rss L⟩,⟨6,w4.heap.size,fun b => w4.heap.size ≤ b ∧ b < w5.heap.size,.sl 1 (X.map e2)⟩,⟨8,w6.heap.size,fun b => w6.heap.size ≤ b ∧ b < w7.heap.size,.sl 1 (X.map e2)⟩] (by
  intro f hf
  simp only [List.mem_cons,List.not_mem_nil,or_false] at hf
  rcases hf with rfl | rfl | rfl | rfl <;> exact ⟨by simp,by dsimp only; decide⟩) [(10,.i (1))] (by
  simp only [envF,List.map_cons,List.map_nil,DV.lend,rs2,rss,lend_e2,lend_eN,lend_eR,lend_e3,lend_ints_]
  exact sGroupTerm_12 z0 hL hT hR hX S C1 C2) (fun c13 a13 w13 hv13 hc13 hz13 hs13 => ?_)
 replace hs13 := hs13.sub (gs := [⟨0,w.heap.size,fun b => b < w.heap.size,.i (m)⟩,⟨1,w.heap.size,fun b => b < w.heap.size,rss L⟩,⟨6,w4.heap.size,fun b => w4.heap.size ≤ b ∧ b < w5.heap.size,.sl 1 (X.map e2)⟩,⟨8,w6.heap.size,fun b => w6.heap.size ≤ b ∧ b < w7.heap.size,.sl 1 (X.map e2)⟩,⟨10,w12.heap.size,fun b => w12.heap.size ≤ b ∧ b < w13.heap.size,.i (1)⟩]) (by
  intro g hg
  refine hs13.so g ?_
  simp only [List.cons_append,List.nil_append,List.map_cons,List.map_nil,newF]
  simp only [List.mem_cons,List.not_mem_nil,or_false] at hg ⊢
  rcases hg with rfl | rfl | rfl | rfl | rfl <;> simp)
 refine hs13.markS hv13 hc13 (x := 8) (x2 := 47) (k := 10) (k2 := 48) (r := 49) (l2 := RGroupTerm_14) (List.mem_of_getElem? (i := 3) rfl) (List.mem_of_getElem? (i := 4) rfl) (row_markMarkS hok hD hB X 1 (by omega) (by omega) (by omega)) (by omega) (fun b h => h.1) (by decide) [⟨0,w.heap.size,fun b => b < w.heap.size,.i (m)⟩,⟨1,w.heap.size,fun b => b < w.heap.size,rss L⟩,⟨6,w4.heap.size,fun b => w4.heap.size ≤ b ∧ b < w5.heap.size,.sl 1 (X.map e2)⟩] (by
  intro g hg
  simp only [List.mem_cons,List.not_mem_nil,or_false] at hg
  rcases hg with rfl | rfl | rfl <;> exact ⟨by simp,by dsimp only; decide,by dsimp only; decide,by dsimp only; decide,by dsimp only; decide⟩) (by
  intro g hg b h1 h2
  simp only [List.mem_cons,List.not_mem_nil,or_false] at hg
  rcases hg with rfl | rfl | rfl <;> simp only at h1 h2 <;> omega) (fun c14 a14 w14 d14 hv14 hc14 hz14 hR14 hs14 => ?_)
 subst hR14
 replace hs14 := hs14.sub (gs := [⟨0,w.heap.size,fun b => b < w.heap.size,.i (m)⟩,⟨1,w.heap.size,fun b => b < w.heap.size,rss L⟩,⟨6,w4.heap.size,fun b => w4.heap.size ≤ b ∧ b < w5.heap.size,.sl 1 (X.map e2)⟩,⟨8,w6.heap.size,fun b => w6.heap.size ≤ b ∧ b < w7.heap.size,.sl 1 ((mkP 1 X.length).map e2)⟩,⟨10,w12.heap.size,fun b => w12.heap.size ≤ b ∧ b < w13.heap.size,.i (1 + 2 * (X.length : Int))⟩]) (by
  intro g hg
  refine hs14.so g ?_
  simp only [List.mem_cons,List.not_mem_nil,or_false] at hg ⊢
  rcases hg with rfl | rfl | rfl | rfl | rfl <;> simp)
 refine hs14.base hS (l1 := IGroupTerm_14) (l2 := RGroupTerm_15) hv14 hc14 rfl [⟨0,w.heap.size,fun b => b < w.heap.size,.i (m)⟩,⟨1,w.heap.size,fun b => b < w.heap.size,rss L⟩,⟨6,w4.heap.size,fun b => w4.heap.size ≤ b ∧ b < w5.heap.size,.sl 1 (X.map e2)⟩,⟨8,w6.heap.size,fun b => w6.heap.size ≤ b ∧ b < w7.heap.size,.sl 1 ((mkP 1 X.length).map e2)⟩,⟨10,w12.heap.size,fun b => w12.heap.size ≤ b ∧ b < w13.heap.size,.i (1 + 2 * (X.length : Int))⟩] (by
  intro f hf
  simp only [List.mem_cons,List.not_mem_nil,or_false] at hf
  rcases hf with rfl | rfl | rfl | rfl | rfl <;> exact ⟨by simp,by dsimp only; decide⟩) [(11,.i (1))] (by
  simp only [envF,List.map_cons,List.map_nil,DV.lend,rs2,rss,lend_e2,lend_eN,lend_eR,lend_e3,lend_ints_]
  exact sGroupTerm_14 z0 hL hT hR hX S C1 C2) (fun c15 a15 w15 hv15 hc15 hz15 hs15 => ?_)
 replace hs15 := hs15.sub (gs := [⟨0,w.heap.size,fun b => b < w.heap.size,.i (m)⟩,⟨1,w.heap.size,fun b => b < w.heap.size,rss L⟩,⟨6,w4.heap.size,fun b => w4.heap.size ≤ b ∧ b < w5.heap.size,.sl 1 (X.map e2)⟩,⟨8,w6.heap.size,fun b => w6.heap.size ≤ b ∧ b < w7.heap.size,.sl 1 ((mkP 1 X.length).map e2)⟩,⟨10,w12.heap.size,fun b => w12.heap.size ≤ b ∧ b < w13.heap.size,.i (1 + 2 * (X.length : Int))⟩,⟨11,w14.heap.size,fun b => w14.heap.size ≤ b ∧ b < w15.heap.size,.i (1)⟩]) (by
  intro g hg
  refine hs15.so g ?_
  simp only [List.cons_append,List.nil_append,List.map_cons,List.map_nil,newF]
  simp only [List.mem_cons,List.not_mem_nil,or_false] at hg ⊢
  rcases hg with rfl | rfl | rfl | rfl | rfl | rfl <;> simp)
 refine hs15.base hS (l1 := IGroupTerm_15) (l2 := RGroupTerm_16) hv15 hc15 rfl [⟨0,w.heap.size,fun b => b < w.heap.size,.i (m)⟩,⟨1,w.heap.size,fun b => b < w.heap.size,rss L⟩,⟨6,w4.heap.size,fun b => w4.heap.size ≤ b ∧ b < w5.heap.size,.sl 1 (X.map e2)⟩,⟨8,w6.heap.size,fun b => w6.heap.size ≤ b ∧ b < w7.heap.size,.sl 1 ((mkP 1 X.length).map e2)⟩,⟨10,w12.heap.size,fun b => w12.heap.size ≤ b ∧ b < w13.heap.size,.i (1 + 2 * (X.length : Int))⟩] (by
  intro f hf
  simp only [List.mem_cons,List.not_mem_nil,or_false] at hf
  rcases hf with rfl | rfl | rfl | rfl | rfl <;> exact ⟨by simp,by dsimp only; decide⟩) [(11,.i (1 + 2 * (X.length : Int)))] (by
  simp only [envF,List.map_cons,List.map_nil,DV.lend,rs2,rss,lend_e2,lend_eN,lend_eR,lend_e3,lend_ints_]
  exact sGroupTerm_15 z0 hL hT hR hX S C1 C2) (fun c16 a16 w16 hv16 hc16 hz16 hs16 => ?_)
 replace hs16 := hs16.sub (gs := [⟨0,w.heap.size,fun b => b < w.heap.size,.i (m)⟩,⟨1,w.heap.size,fun b => b < w.heap.size,rss L⟩,⟨6,w4.heap.size,fun b => w4.heap.size ≤ b ∧ b < w5.heap.size,.sl 1 (X.map e2)⟩,⟨8,w6.heap.size,fun b => w6.heap.size ≤ b ∧ b < w7.heap.size,.sl 1 ((mkP 1 X.length).map e2)⟩,⟨10,w12.heap.size,fun b => w12.heap.size ≤ b ∧ b < w13.heap.size,.i (1 + 2 * (X.length : Int))⟩,⟨11,w15.heap.size,fun b => w15.heap.size ≤ b ∧ b < w16.heap.size,.i (1 + 2 * (X.length : Int))⟩]) (by
  intro g hg
  refine hs16.so g ?_
  simp only [List.cons_append,List.nil_append,List.map_cons,List.map_nil,newF]
  simp only [List.mem_cons,List.not_mem_nil,or_false] at hg ⊢
  rcases hg with rfl | rfl | rfl | rfl | rfl | rfl <;> simp)
 refine hs16.base hS (l1 := IGroupTerm_16) (l2 := RGroupTerm_17) hv16 hc16 rfl [⟨0,w.heap.size,fun b => b < w.heap.size,.i (m)⟩,⟨1,w.heap.size,fun b => b < w.heap.size,rss L⟩,⟨6,w4.heap.size,fun b => w4.heap.size ≤ b ∧ b < w5.heap.size,.sl 1 (X.map e2)⟩,⟨8,w6.heap.size,fun b => w6.heap.size ≤ b ∧ b < w7.heap.size,.sl 1 ((mkP 1 X.length).map e2)⟩,⟨10,w12.heap.size,fun b => w12.heap.size ≤ b ∧ b < w13.heap.size,.i (1 + 2 * (X.length : Int))⟩,⟨11,w15.heap.size,fun b => w15.heap.size ≤ b ∧ b < w16.heap.size,.i (1 + 2 * (X.length : Int))⟩] (by
  intro f hf
  simp only [List.mem_cons,List.not_mem_nil,or_false] at hf
  rcases hf with rfl | rfl | rfl | rfl | rfl | rfl <;> exact ⟨by simp,by dsimp only; decide⟩) [] (by
  simp only [envF,List.map_cons,List.map_nil,DV.lend,rs2,rss,lend_e2,lend_eN,lend_eR,lend_e3,lend_ints_]
  exact sGroupTerm_16 z0 hL hT hR hX S C1 C2) (fun c17 a17 w17 hv17 hc17 hz17 hs17 => ?_)
 replace hs17 := hs17.sub (gs := [⟨0,w.heap.size,fun b => b < w.heap.size,.i (m)⟩,⟨1,w.heap.size,fun b => b < w.heap.size,rss L⟩,⟨6,w4.heap.size,fun b => w4.heap.size ≤ b ∧ b < w5.heap.size,.sl 1 (X.map e2)⟩,⟨8,w6.heap.size,fun b => w6.heap.size ≤ b ∧ b < w7.heap.size,.sl 1 ((mkP 1 X.length).map e2)⟩,⟨10,w12.heap.size,fun b => w12.heap.size ≤ b ∧ b < w13.heap.size,.i (1 + 2 * (X.length : Int))⟩,⟨11,w15.heap.size,fun b => w15.heap.size ≤ b ∧ b < w16.heap.size,.i (1 + 2 * (X.length : Int))⟩]) (by
  intro g hg
  refine hs17.so g ?_
  simp only [List.cons_append,List.nil_append,List.map_cons,List.map_nil,newF]
  simp only [List.mem_cons,List.not_mem_nil,or_false] at hg ⊢
  rcases hg with rfl | rfl | rfl | rfl | rfl | rfl <;> simp)
 refine hs17.base hS (l1 := IGroupTerm_17) (l2 := RGroupTerm_18) hv17 hc17 rfl [⟨0,w.heap.size,fun b => b < w.heap.size,.i (m)⟩,⟨1,w.heap.size,fun b => b < w.heap.size,rss L⟩,⟨6,w4.heap.size,fun b => w4.heap.size ≤ b ∧ b < w5.heap.size,.sl 1 (X.map e2)⟩,⟨8,w6.heap.size,fun b => w6.heap.size ≤ b ∧ b < w7.heap.size,.sl 1 ((mkP 1 X.length).map e2)⟩,⟨10,w12.heap.size,fun b => w12.heap.size ≤ b ∧ b < w13.heap.size,.i (1 + 2 * (X.length : Int))⟩] (by
  intro f hf
  simp only [List.mem_cons,List.not_mem_nil,or_false] at hf
  rcases hf with rfl | rfl | rfl | rfl | rfl <;> exact ⟨by simp,by dsimp only; decide⟩) [] (by
  simp only [envF,List.map_cons,List.map_nil,DV.lend,rs2,rss,lend_e2,lend_eN,lend_eR,lend_e3,lend_ints_]
  exact sGroupTerm_17 z0 hL hT hR hX S C1 C2) (fun c18 a18 w18 hv18 hc18 hz18 hs18 => ?_)
 replace hs18 := hs18.sub (gs := [⟨0,w.heap.size,fun b => b < w.heap.size,.i (m)⟩,⟨1,w.heap.size,fun b => b < w.heap.size,rss L⟩,⟨6,w4.heap.size,fun b => w4.heap.size ≤ b ∧ b < w5.heap.size,.sl 1 (X.map e2)⟩,⟨8,w6.heap.size,fun b => w6.heap.size ≤ b ∧ b < w7.heap.size,.sl 1 ((mkP 1 X.length).map e2)⟩,⟨10,w12.heap.size,fun b => w12.heap.size ≤ b ∧ b < w13.heap.size,.i (1 + 2 * (X.length : Int))⟩]) (by
  intro g hg
  refine hs18.so g ?_
  simp only [List.cons_append,List.nil_append,List.map_cons,List.map_nil,newF]
  simp only [List.mem_cons,List.not_mem_nil,or_false] at hg ⊢
  rcases hg with rfl | rfl | rfl | rfl | rfl <;> simp)
 refine hs18.base hS (l1 := IGroupTerm_18) (l2 := RGroupTerm_19) hv18 hc18 rfl [⟨6,w4.heap.size,fun b => w4.heap.size ≤ b ∧ b < w5.heap.size,.sl 1 (X.map e2)⟩,⟨8,w6.heap.size,fun b => w6.heap.size ≤ b ∧ b < w7.heap.size,.sl 1 ((mkP 1 X.length).map e2)⟩,⟨10,w12.heap.size,fun b => w12.heap.size ≤ b ∧ b < w13.heap.size,.i (1 + 2 * (X.length : Int))⟩] (by
  intro f hf
  simp only [List.mem_cons,List.not_mem_nil,or_false] at hf
  rcases hf with rfl | rfl | rfl <;> exact ⟨by simp,by dsimp only; decide⟩) [(12,.sl 1 (X.map e2))] (by
  simp only [envF,List.map_cons,List.map_nil,DV.lend,rs2,rss,lend_e2,lend_eN,lend_eR,lend_e3,lend_ints_]
  exact sGroupTerm_18 z0 hL hT hR hX S C1 C2) (fun c19 a19 w19 hv19 hc19 hz19 hs19 => ?_)
 replace hs19 := hs19.sub (gs := [⟨6,w4.heap.size,fun b => w4.heap.size ≤ b ∧ b < w5.heap.size,.sl 1 (X.map e2)⟩,⟨8,w6.heap.size,fun b => w6.heap.size ≤ b ∧ b < w7.heap.size,.sl 1 ((mkP 1 X.length).map e2)⟩,⟨10,w12.heap.size,fun b => w12.heap.size ≤ b ∧ b < w13.heap.size,.i (1 + 2 * (X.length : Int))⟩,⟨12,w18.heap.size,fun b => w18.heap.size ≤ b ∧ b < w19.heap.size,.sl 1 (X.map e2)⟩]) (by
  intro g hg
  refine hs19.so g ?_
  simp only [List.cons_append,List.nil_append,List.map_cons,List.map_nil,newF]
  simp only [List.mem_cons,List.not_mem_nil,or_false] at hg ⊢
  rcases hg with rfl | rfl | rfl | rfl <;> simp)
 refine hs19.base hS (l1 := IGroupTerm_19) (l2 := RGroupTerm_20) hv19 hc19 rfl [⟨8,w6.heap.size,fun b => w6.heap.size ≤ b ∧ b < w7.heap.size,.sl 1 ((mkP 1 X.length).map e2)⟩,⟨10,w12.heap.size,fun b => w12.heap.size ≤ b ∧ b < w13.heap.size,.i (1 + 2 * (X.length : Int))⟩] (by
  intro f hf
  simp only [List.mem_cons,List.not_mem_nil,or_false] at hf
  rcases hf with rfl | rfl <;> exact ⟨by simp,by dsimp only; decide⟩) [] (by
  simp only [envF,List.map_cons,List.map_nil,DV.lend,rs2,rss,lend_e2,lend_eN,lend_eR,lend_e3,lend_ints_]
  exact sGroupTerm_19 z0 hL hT hR hX S C1 C2) (fun c20 a20 w20 hv20 hc20 hz20 hs20 => ?_)
 replace hs20 := hs20.sub (gs := [⟨8,w6.heap.size,fun b => w6.heap.size ≤ b ∧ b < w7.heap.size,.sl 1 ((mkP 1 X.length).map e2)⟩,⟨10,w12.heap.size,fun b => w12.heap.size ≤ b ∧ b < w13.heap.size,.i (1 + 2 * (X.length : Int))⟩]) (by
  intro g hg
  refine hs20.so g ?_
  simp only [List.cons_append,List.nil_append,List.map_cons,List.map_nil,newF]
  simp only [List.mem_cons,List.not_mem_nil,or_false] at hg ⊢
  rcases hg with rfl | rfl <;> simp)
 refine hs20.base hS (l1 := IGroupTerm_20) (l2 := RGroupTerm_21) hv20 hc20 rfl [⟨8,w6.heap.size,fun b => w6.heap.size ≤ b ∧ b < w7.heap.size,.sl 1 ((mkP 1 X.length).map e2)⟩,⟨10,w12.heap.size,fun b => w12.heap.size ≤ b ∧ b < w13.heap.size,.i (1 + 2 * (X.length : Int))⟩] (by
  intro f hf
  simp only [List.mem_cons,List.not_mem_nil,or_false] at hf
  rcases hf with rfl | rfl <;> exact ⟨by simp,by dsimp only; decide⟩) [(11,.i (1))] (by
  simp only [envF,List.map_cons,List.map_nil,DV.lend,rs2,rss,lend_e2,lend_eN,lend_eR,lend_e3,lend_ints_]
  exact sGroupTerm_20 z0 hL hT hR hX S C1 C2) (fun c21 a21 w21 hv21 hc21 hz21 hs21 => ?_)
 replace hs21 := hs21.sub (gs := [⟨8,w6.heap.size,fun b => w6.heap.size ≤ b ∧ b < w7.heap.size,.sl 1 ((mkP 1 X.length).map e2)⟩,⟨10,w12.heap.size,fun b => w12.heap.size ≤ b ∧ b < w13.heap.size,.i (1 + 2 * (X.length : Int))⟩,⟨11,w20.heap.size,fun b => w20.heap.size ≤ b ∧ b < w21.heap.size,.i (1)⟩]) (by
  intro g hg
  refine hs21.so g ?_
  simp only [List.cons_append,List.nil_append,List.map_cons,List.map_nil,newF]
  simp only [List.mem_cons,List.not_mem_nil,or_false] at hg ⊢
  rcases hg with rfl | rfl | rfl <;> simp)
 refine hs21.base hS (l1 := IGroupTerm_21) (l2 := RGroupTerm_22) hv21 hc21 rfl [⟨10,w12.heap.size,fun b => w12.heap.size ≤ b ∧ b < w13.heap.size,.i (1 + 2 * (X.length : Int))⟩] (by
  intro f hf
  simp only [List.mem_cons,List.not_mem_nil,or_false] at hf
  rcases hf with rfl <;> exact ⟨by simp,by dsimp only; decide⟩) [(11,.i (1 + 2 * (X.length : Int)))] (by
  simp only [envF,List.map_cons,List.map_nil,DV.lend,rs2,rss,lend_e2,lend_eN,lend_eR,lend_e3,lend_ints_]
  exact sGroupTerm_21 z0 hL hT hR hX S C1 C2) (fun c22 a22 w22 hv22 hc22 hz22 hs22 => ?_)
 replace hs22 := hs22.sub (gs := [⟨10,w12.heap.size,fun b => w12.heap.size ≤ b ∧ b < w13.heap.size,.i (1 + 2 * (X.length : Int))⟩,⟨11,w21.heap.size,fun b => w21.heap.size ≤ b ∧ b < w22.heap.size,.i (1 + 2 * (X.length : Int))⟩]) (by
  intro g hg
  refine hs22.so g ?_
  simp only [List.cons_append,List.nil_append,List.map_cons,List.map_nil,newF]
  simp only [List.mem_cons,List.not_mem_nil,or_false] at hg ⊢
  rcases hg with rfl | rfl <;> simp)
 refine hs22.base hS (l1 := IGroupTerm_22) (l2 := RGroupTerm_23) hv22 hc22 rfl [⟨10,w12.heap.size,fun b => w12.heap.size ≤ b ∧ b < w13.heap.size,.i (1 + 2 * (X.length : Int))⟩,⟨11,w21.heap.size,fun b => w21.heap.size ≤ b ∧ b < w22.heap.size,.i (1 + 2 * (X.length : Int))⟩] (by
  intro f hf
  simp only [List.mem_cons,List.not_mem_nil,or_false] at hf
  rcases hf with rfl | rfl <;> exact ⟨by simp,by dsimp only; decide⟩) [] (by
  simp only [envF,List.map_cons,List.map_nil,DV.lend,rs2,rss,lend_e2,lend_eN,lend_eR,lend_e3,lend_ints_]
  exact sGroupTerm_22 z0 hL hT hR hX S C1 C2) (fun c23 a23 w23 hv23 hc23 hz23 hs23 => ?_)
 replace hs23 := hs23.sub (gs := [⟨10,w12.heap.size,fun b => w12.heap.size ≤ b ∧ b < w13.heap.size,.i (1 + 2 * (X.length : Int))⟩,⟨11,w21.heap.size,fun b => w21.heap.size ≤ b ∧ b < w22.heap.size,.i (1 + 2 * (X.length : Int))⟩]) (by
  intro g hg
  refine hs23.so g ?_
  simp only [List.cons_append,List.nil_append,List.map_cons,List.map_nil,newF]
  simp only [List.mem_cons,List.not_mem_nil,or_false] at hg ⊢
  rcases hg with rfl | rfl <;> simp)
 refine hs23.base hS (l1 := IGroupTerm_23) (l2 := RGroupTerm_24) hv23 hc23 rfl [] (by
  intro f hf
  cases hf) [] (by
  simp only [envF,List.map_cons,List.map_nil,DV.lend,rs2,rss,lend_e2,lend_eN,lend_eR,lend_e3,lend_ints_]
  exact sGroupTerm_23 z0 hL hT hR hX S C1 C2) (fun c24 a24 w24 hv24 hc24 hz24 hs24 => ?_)
 refine hs24.base hS (l1 := IGroupTerm_24) (l2 := RGroupTerm_25) hv24 hc24 rfl [] (by
  intro f hf
  cases hf) [(4,.b true)] (by
  simp only [envF,List.map_cons,List.map_nil,DV.lend,rs2,rss,lend_e2,lend_eN,lend_eR,lend_e3,lend_ints_]
  exact sGroupTerm_24 z0 hL hT hR hX S C1 C2) (fun c25 a25 w25 hv25 hc25 hz25 hs25 => ?_)
 replace hs25 := hs25.sub (gs := [⟨4,w24.heap.size,fun b => w24.heap.size ≤ b ∧ b < w25.heap.size,.b true⟩]) (by
  intro g hg
  refine hs25.so g ?_
  simp only [List.cons_append,List.nil_append,List.map_cons,List.map_nil,newF]
  simp only [List.mem_cons,List.not_mem_nil,or_false] at hg ⊢
  rcases hg with rfl <;> simp)
 exact law_ret hv25 hs25 rfl
end
end
end Zz
