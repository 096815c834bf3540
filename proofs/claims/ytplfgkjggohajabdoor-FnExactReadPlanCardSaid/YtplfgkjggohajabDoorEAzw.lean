/- What the functions answer, as equations: EA. No conditions. -/
import Derived.Test.YtplfgkjggohajabDoorIrzw
import Derived.Test.YtplfgkjggohajabDoorE0
set_option linter.unusedSectionVars false
set_option linter.unusedVariables false
set_option linter.unusedSimpArgs false
namespace Zz
open Go.Lg Md
set_option linter.unusedSimpArgs false
set_option linter.unusedVariables false
attribute [local simp] tm_mv tm_newnil tm_pick tm_bin tm_eqb tm_eqs tm_un tm_len tm_lens tm_chk tm_fld tm_fldv tm_idxa tm_idx tm_load tm_store tm_slice tm_slices tm_make tm_alloc tm_box tm_build tm_app tm_conv tm_ext tm_call tm_calld tm_mkfn tm_mm tm_idxp tm_eqn tm_callg tm_callm tm_bslice0 tm_bslice1 tm_bslice2 tm_bslice cw_nil cw_cons cd_none cd_some ec_nil ec_cons es_nil es_one es_more nn_nil nn_cons ns_nil ns_cons si_nil si_cons sk_t stod_oad stod_own stod_adr stod_dead ml_nil ml_cons nt_nil nt_cons nc_nil' nc_cons sa_mkfn cv_adr cv_i cv_y cv_b cv_w sa_calld nm_def nh_nil nh_cons nxM_some nxM_none sc_st sd_i sd_y sd_b sd_s sd_w sd_q sc_i sc_y sc_b sc_s sc_w sc_q sa_bslice sa_app nc_own nc_nil sa_call sa_alloc sa_build sa_callm rm_nil rm_one rm_gen bq_mul bq_eql ia_mv ia_newnil ia_pick ia_bin ia_eqb ia_eqs ia_un ia_len ia_lens ia_chk ia_fld ia_fldv ia_idxa ia_idx ia_load ia_store ia_slice ia_slices ia_make ia_alloc ia_box ia_build ia_bslice ia_app ia_b2i ia_i2b ia_i2i ia_same ia_b2s ia_s2b ia_ext ia_mm ia_idxp ia_calld ia_mkfn ia_i2r ia_r2s ia_call pt_nil pt_cons mi_nil mi_cons md_bslice md_mv md_newnil md_pick md_bin md_eqb md_un md_len md_lens md_fld md_fldv md_idxa md_idx md_load md_store md_slice md_slices md_make md_alloc md_box md_build md_app md_conv md_ext md_call md_calld md_callg md_mkfn md_mm md_idxp md_eqn md_eqs md_chk tg_bslice tg_mv tg_newnil tg_pick tg_bin tg_eqb tg_un tg_len tg_lens tg_fld tg_fldv tg_idxa tg_idx tg_load tg_store tg_slice tg_slices tg_make tg_alloc tg_box tg_build tg_app tg_conv tg_ext tg_call tg_calld tg_callg tg_mkfn tg_mm tg_idxp tg_eqn tg_eqs tg_chk rp_eq ro_eq ifP_t ifP_f np_def ng1_nil ng2_nil ng_gate ng_gen tgA_t tgA_0 tgA_1 tgA_2 aC_nil aC_c aC_t rS_def nb_def tv_b2i tv_i2b tv_i2i tv_s2b tv_b2s tv_same tv_i2r tv_r2s tv_i2q tv_q2i tv_q2q nxZ_some nxZ_none rz_nil rz_gen nxP_some nxP_none rq_nil rq_gen rq_gate nxR_some nxR_none ru_nil ru_gen ru_gate pl_none pl_some gt_nil gt_t gt_c di_some di_none an_nil an_cons nxG_some nxG_none rg_nil rg_gen rg_gate oldO_some oa_nil oa_i oa_y oa_b oa_s oa_st oa_sl oa_own oa_oad oa_nl al_nil al_cons al_i al_y al_b al_s al_st al_sl nxF_some nxF_none rf_nil rf_gen rf_gate hk_newnil hk_make hk_alloc hk_box hk_build hk_bslice hk_call hk_store hk_app hk_appn em_cel mm_cel ok_cel ov_cel so_cel il_cel oi_cel oj_cel ol_cel nm_cel hk_appc ef_bslice5 ef_app_cel ks_shut shu_own shc_none shc_cel cl_nil cl_cons ai_nil ai_cons il_i il_y il_b il_s il_st il_sl il_own il_adr il_oad il_ref il_fr il_tup il_nil il_np il_und il_dead ol_adr ol_b ol_dead ol_e ol_fn ol_fr ol_i ol_nil ol_np ol_oad ol_own ol_q ol_r ol_ref ol_s ol_sl ol_st ol_tup ol_und ol_w ol_y oj_e oj_i oj_y oj_b oj_s oj_st oj_sl oj_own oj_adr oj_oad oj_ref oj_fr oj_tup oj_nil oj_np oj_und oj_dead oj_w oj_q oj_r oj_fn oi_e oi_i oi_y oi_b oi_s oi_st oi_sl oi_own oi_adr oi_oad oi_ref oi_fr oi_tup oi_nil oi_np oi_und oi_dead as_nil as_cons ao_nil ao_cons av_i av_y av_b av_s av_st av_sl av_own av_adr av_oad av_ref av_fr av_tup av_nil av_np av_und av_dead pro_cons ghK_some ks_promote ks_freeze frz_own ks_rename ren_own ks_cell cel_own dropO adoptP newP wholeP cutP allOldL ex_skip ex_ret ex_exit ks_region ks_seq ks_cut ks_cond ks_block seqK_n seqK_e seqK_r regK_some condK_t condK_f blkK_n blkK_r blkK_e endK_n endK_r rr_false rr_true rd_free mo_nil mo_cons drK_some drK_none nxW_some nxW_none rw_nil rw_gen rw_gate ak_newnil ak_make ak_alloc ak_box ak_build ak_bslice ak_call ak_store ak_app iw_mm iw_eqn iw_idxp ef_callg cgK_some gv_e gv_own gv_i gv_sl gv_st gv_b gv_nil gvK_some gvO_some iw_callg ia_callg ak_callg hk_callg is_mv is_newnil is_pick is_bin is_eqb is_eqs is_un is_len is_lens is_chk is_fld is_fldv is_idxa is_idx is_load is_slice is_slices is_make is_alloc is_box is_build is_bslice is_app is_conv is_ext is_call is_calld is_callg is_mkfn is_mm is_idxp is_eqn is_store rt_nil rt_gen rt_gate nxT_some nxT_none ef_eqn_nil ef_eqn_sl ef_eqn_own ia_eqn ef_mmx ef_mmn ef_idxp nxD_some nxD_none ov_i ov_y ov_b ov_s ov_st ov_sl ov_own ov_oad ov_adr ov_nil ov_np ov_und ov_dead ov_tup oldN_some oldN_nil oldN_none so_none so_tup DV.noM so_i so_y so_b so_s so_st so_sl so_adr so_nil so_np so_und so_dead anyM_nil anyM_t anyM_c so_own so_oad rd_nil rd_gen rd_mv rd_gate iw_mv iw_newnil iw_pick iw_bin iw_eqb iw_eqs iw_un iw_len iw_lens iw_chk iw_fld iw_fldv iw_idxa iw_idx iw_load iw_store iw_slice iw_slices iw_make iw_alloc iw_box iw_build iw_bslice iw_app iw_b2i iw_i2b iw_i2i iw_same iw_b2s iw_s2b iw_ext iw_call nm_i nm_y nm_b nm_s nm_st nm_sl nm_own nm_oad nm_adr nm_nil nm_np nm_und nm_dead nm_tup rl_nil rl_gate rl_mv rl_gen opv_t opv_c nx_some nx_none gate_tt gate_tf gate_ft gate_ff gate_u fr_ap em_nil em_i em_y em_b em_s em_st em_sl em_own em_adr em_oad em_ref em_nl em_np em_und em_dead em_tup0 em_tup_i em_tup_b em_tup_s em_tup_sl em_tup_st em_tup_np em_tup_own em_tup_oad mm_i mm_y mm_b mm_s mm_st mm_sl mm_own mm_oad mm_adr mm_nil mm_np mm_und mm_dead ef_mv ef_newnil ef_pickt ef_pickf ef_bin ef_eqb ef_eqs ef_un ef_lens ef_len_sl ef_len_own ef_len_nil ef_chk_adr ef_chk_oad ef_fld_adr ef_fld_oad ef_fldv idxR_some ef_idxa_sl ef_idxa_own ef_idx ef_load_adr_st ef_load_adr_i ef_load_adr_y ef_load_adr_b ef_load_adr_s ef_load_adr_sl atN_nil atN_zero atN_succ ef_load_oad ef_store ef_slice ef_slices ef_make ef_alloc ef_box ef_build ef_bslice ef_app_own ef_app_nil ef_b2i ef_i2b ef_i2i ef_same ef_ext ret1 ret2_some calL_some ef_call retC_i retC_y retC_b retC_s retC_st retC_sl retC_np retC_fr retC_ref retC_tup rk_nil rk_i rk_y rk_b rk_s rk_st rk_sl rk_own rk_oad rk_nl ok_nil ok_i ok_y ok_b ok_s ok_st ok_sl ok_own ok_oad ok_nl lo_nil lo_i lo_y lo_b lo_s lo_st lo_sl lo_own lo_oad lo_nl pr_nil pr_i pr_y pr_b pr_s pr_st pr_sl pr_own pr_nl pr_oad nr_i nr_y nr_b nr_s nr_st nr_sl nr_fr nr_np nr_tup ng_i ng_b ng_s ng_fr ng_nil resV effP_eff binD bi_add bi_sub bi_mul bi_quo bi_rem bi_eql bi_neq bi_lss bi_leq bi_gtr bi_geq bi_shl bi_shr bi_and bi_or bi_xor bi_andNot binY binS unD look put putD LS.get LS.drop killE sweep lookO putO dropO enter leave giveBackL giveBack outs lendArgs lendArg newOuts takeIn takeInL lendL DV.lend adoptL DV.adopt elems apartKs part DV.cells unpart settle settleL over mkId szId fillP fillE tk_e2 tk_i tk_y lt_e2 lt_i lt_y lend_rep al_e2 al_is al_ys al_rep al_app lend_app adopt_app new_app lend_e2 lend_i lend_y adopt_e2 adopt_i adopt_y new_e2 new_i allNewL DV.allNew bounds sliceD sliceS em_w em_q em_r em_fn em_tup_w em_tup_q em_tup_r mm_w mm_q mm_r mm_fn ef_load_adr_w ef_load_adr_q ef_load_adr_r retC_w retC_q retC_r rk_w rk_q rk_r rk_fn ok_w ok_q ok_r ok_fn lo_w lo_q lo_r lo_fn pr_w pr_q pr_r pr_fn nr_w nr_q nr_r ng_w ng_q ng_r oa_w oa_q oa_r oa_fn al_w al_q al_r al_fn ov_w ov_q ov_r ov_fn so_w so_q so_r so_fn il_w il_q il_r il_fn oi_w oi_q oi_r oi_fn av_w av_q av_r av_fn nm_w nm_q nm_r nm_fn ef_i2r ef_r2s ef_b2s bs_some ys_nil ys_cons ys_map ef_mkfn ef_mkbd ef_idxp_adr ef_idxp_q ef_calld_nil ef_calld_adr ef_calld_bd DV.capB capsOk DV.cell List.all_cons List.all_nil rk_own_t lo_own_t lk_f lk_t pr_own_t mutB ak_calld hk_calld iw_calld iw_mkfn iw_i2r iw_r2s bw_and bw_or bw_xor bw_andNot bw_eql bw_neq sw_shl sw_shr sq_shl gEnv_nil rk_adr ok_adr lo_adr pr_adr oa_adr capL capArg DV.cap ak_mkfn hk_mkfn hk_mkbd ef_callm gf_ap ga_nil ga_cons tgv_own gk_e gk_giv gk_i gk_y gk_b gk_s gk_w gk_q gk_r gk_fn gk_st gk_sl gk_own gk_oad gk_adr gk_nl gk_np rk_giv ok_giv lo_giv pr_giv oa_giv iw_callm hk_callm ak_callm is_callm ia_callm tg_callm md_callm ef_i2q ef_q2i ef_q2q iw_i2q iw_q2i iw_q2q ia_i2q ia_q2i ia_q2q bq_and bq_add bq_shr sq_shr tgv_nil gk_ref rk_ref ok_ref lo_ref pr_ref oa_ref retC_fn nr_fn ef_load_adr_fn ks_close cls_oad
attribute [local congr] nxM_congr ifP_congr nxP_congr nxZ_congr nxR_congr nxT_congr nxG_congr nxF_congr ghK_congr gate_congr nx_congr nxD_congr runL_congr runD_congr eff_congr calL_congr ret2_congr seqK_congr regK_congr condK_congr endK_congr drK_congr nxW_congr
attribute [local simp ↓] nxM_some rm_nil rm_one rm_gen nxT_some rt_nil rt_gen rt_gate nxZ_some rz_nil rz_gen nxP_some rq_nil rq_gen rq_gate nxR_some ru_nil ru_gen ru_gate nxG_some rg_nil rg_gen rg_gate nxF_some rf_nil rf_gen rf_gate ks_promote ks_freeze frz_own ks_rename ks_cell ghK_some gate_tt gate_tf gate_ft gate_ff gate_u nx_some nxD_some rl_nil rl_mv rl_gen rl_gate rd_nil rd_mv rd_gen rd_gate rd_free rr_false rr_true drK_some drK_none nxW_some rw_nil rw_gen rw_gate ks_region ks_seq ks_cut ks_cond ks_block seqK_n seqK_e seqK_r regK_some condK_t condK_f blkK_n blkK_r endK_n endK_r calL_some ret2_some opv_t opv_c
section
theorem c_impl_isWithin (a b c : Int) : call lf n_impl_isWithin [.i a,.i b,.i c] = some (.b (decide (b ≤ a ∧ a ≤ c)),[]) := by
 rw [call_k lf n_impl_isWithin _ (F := F_impl_isWithin) rfl rfl]
 by_cases h : b ≤ a <;> simp [F_impl_isWithin,h]
theorem c_spec_l1In (a b c : Int) : call lf n_spec_l1In [.i a,.i b,.i c] = some (.b (decide (b ≤ a ∧ a ≤ c)),[]) := by
 rw [call_k lf n_spec_l1In _ (F := F_spec_l1In) rfl rfl]
 by_cases h : b ≤ a <;> simp [F_spec_l1In,h]
theorem c_impl_manyOk (a : Int) : call lf n_impl_manyOk [.i a] = some (.b (nOk a),[]) := by
 rw [call_k lf n_impl_manyOk _ (F := F_impl_manyOk) rfl rfl]
 simp [F_impl_manyOk,c_impl_isWithin,nOk]

theorem nOk_iff {a : Int} : nOk a = true ↔ 1 ≤ a ∧ a ≤ 5 := by simp [nOk]
theorem tsOk_iff {ts : List T} : tsOk ts = true ↔ (1 ≤ (ts.length : Int) ∧ (ts.length : Int) ≤ 5) ∧ ts.all tOk = true := by
 rw [tsOk,Bool.and_eq_true,nOk_iff]
theorem ksOk_iff {m : Int} {ks : List Int} : ksOk m ks = true ↔ (1 ≤ m ∧ m ≤ 5) ∧ (ks.length : Int) = m ∧ ks.all kOk = true := by
 rw [ksOk,Bool.and_eq_true,Bool.and_eq_true,nOk_iff,decide_eq_true_eq,and_assoc]
theorem l_spec_l1Agrees (s : Int) (hs : 0 ≤ s) (n : Int) (hb : n ≤ 40) (es : List DV) (hE : (es.length : Int) = n) (rest : List Int) : ∀ k : Int,0 ≤ k → k + (rest.map DV.i).length = n → es.drop k.toNat = rest.map .i →
  ex lf F_spec_l1Agrees_W0 ⟨[(0,.sl 0 es),(1,.i s),(5,.i k)],[]⟩ =
  if ag rest (s / 2 ^ k.toNat) then some (.exit 0,⟨[(0,.sl 0 es),(1,.i s),(5,.i n)],[]⟩) else some (.ret,⟨[(4,.b false)],[]⟩) := by
 induction rest with
 | nil =>
  intro k h0 hn hd
  rw [w_spec_l1Agrees_0]
  have hk : k = n := by simpa using hn
  simp [F_spec_l1Agrees_L0,hk,ag,hE]
 | cons t rest ih =>
  intro k h0 hn hd
  obtain ⟨q1,q2,q3,q4,q5,q6⟩ := stp h0 hn (by omega) hd
  have ih := ih (k + 1) q4 q5 q6
  rw [div_pow_succ s h0] at ih
  have h1 : ¬ k < 0 := by omega
  have sh := shr1 (a := s) h0 (show k ≤ 60 by omega)
  have tm := tmod2 (div_pow_nonneg hs k.toNat)
  rw [w_spec_l1Agrees_0]
  by_cases x1 : t = -1
  ·simp [F_spec_l1Agrees_L0,q1,q2,q3,hE,ih,ag,x1]
  ·have y1 : (t != -1) = true := bne_iff_ne.2 x1
   have z1 : (t == -1) = false := beq_eq_false_iff_ne.2 x1
   by_cases x2 : t = s / 2 ^ k.toNat % 2
   ·have x3 : (t == s / 2 ^ k.toNat % 2) = true := by simp [← x2]
    have x4 : (t != s / 2 ^ k.toNat % 2) = false := by simp [← x2]
    simp [F_spec_l1Agrees_L0,q1,q2,q3,hE,h1,sh,tm,ih,ag,y1,z1,x3,x4]
   ·have x3 : (t == s / 2 ^ k.toNat % 2) = false := beq_eq_false_iff_ne.2 x2
    have x4 : (t != s / 2 ^ k.toNat % 2) = true := bne_iff_ne.2 x2
    simp [F_spec_l1Agrees_L0,q1,q2,q3,hE,h1,sh,tm,ih,ag,y1,z1,x3,x4]
theorem c_spec_l1Agrees (ks : List Int) (s : Int) (hb : (ks.length : Int) ≤ 40) (hs : 0 ≤ s) : call lf n_spec_l1Agrees [.sl 0 (ks.map .i),.i s] = some (.b (ag ks s),[]) := by
 rw [call_k lf n_spec_l1Agrees _ (F := F_spec_l1Agrees) rfl rfl]
 have L := l_spec_l1Agrees s hs ks.length hb (ks.map .i) (by simp) ks 0 (by omega) (by simp) (by simp)
 simp at L
 cases h3 : ag ks s <;> simp [F_spec_l1Agrees,h3,L]
end
section
theorem p2 {ts : List T} (h : tsOk ts = true) : 1 ≤ (2 : Nat) ^ ts.length ∧ (2 : Nat) ^ ts.length ≤ 32 ∧ ((2 ^ ts.length : Nat) : Int) = 2 ^ ts.length := by
 have h' := tsOk_iff.1 h
 have a : (2 : Nat) ^ ts.length ≤ 2 ^ 5 := Nat.pow_le_pow_right (by omega) (by omega)
 exact ⟨Nat.pow_pos (by omega),by omega,by simp⟩
theorem at_e2 {ts : List T} {i : Nat} (hi : i < ts.length) : ∃ t,ts[i]? = some t ∧ t ∈ ts ∧ atI (ts.map e2) i = some (.st [.i t.1,.i t.2]) ∧ ts.take (i + 1) = ts.take i ++ [t] := by
 refine ⟨ts[i],List.getElem?_eq_getElem hi,List.getElem_mem hi,?_,List.take_succ_eq_append_getElem hi⟩
 simp [atI,hi,e2]
end
section
def cz (ts : List T) (i : Nat) : List DV := (ts.take i).map e2 ++ List.replicate (ts.length - i) (.st [.i 0,.i 0])
theorem cz_len {ts : List T} {i : Nat} (hi : i ≤ ts.length) : (cz ts i).length = ts.length := by simp [cz]; omega
theorem cz_set {ts : List T} {i : Nat} {t : T} (hi : i < ts.length) (h : ts.take (i + 1) = ts.take i ++ [t]) : (cz ts i).set i (.st [.i t.1,.i t.2]) = cz ts (i + 1) := by
 have : ((ts.take i).map e2).length = i := by simp; omega
 unfold cz
 rw [List.set_append_right _ _ (by omega),this,Nat.sub_self,h,show ts.length - i = (ts.length - (i + 1)) + 1 by omega,List.replicate_succ,List.set_cons_zero,List.map_append,List.append_assoc]
 rfl
theorem cz_get {ts : List T} {i : Nat} (hi : i < ts.length) : atN (cz ts i) i = some (.st [.i 0,.i 0]) := by
 show (cz ts i)[i]? = _
 have : ((ts.take i).map e2).length = i := by simp; omega
 unfold cz
 rw [List.getElem?_append_right (by omega),this,Nat.sub_self,List.getElem?_replicate]
 simp; omega
theorem cz_zero (ts : List T) : cz ts 0 = List.replicate ts.length (.st [.i 0,.i 0]) := by simp [cz]
theorem cz_all (ts : List T) : cz ts ts.length = ts.map e2 := by simp [cz]
end
section
def ci (ts : List Int) (i : Nat) : List DV := (ts.take i).map .i ++ List.replicate (ts.length - i) (.i 0)
end
section
theorem c_toMark (t : T) : call lf n_laws_toMark [e2 t] = some (e2 t,[]) := by
 rw [call_k lf n_laws_toMark _ (F := F_laws_toMark) rfl rfl]
 simp [F_laws_toMark,e2]
theorem c_szMarkS (ts : List T) (n : Int) (h0 : 0 ≤ n) (h1 : n ≤ 1048576) (hb : (ts.length : Int) ≤ 9223372036854775807) : call lf n_laws_szMarkS [.sl 0 (ts.map e2),.i n] = some (.i (if n < ts.length then -1 else n - ts.length),[]) := by
 rw [call_k lf n_laws_szMarkS _ (F := F_laws_szMarkS) rfl rfl]
 have w : wr (n - ts.length) = n - ts.length := wr_id (by omega) (by omega)
 by_cases h : n < ts.length
 ·have h' : n - ts.length < 0 := by omega
  simp [F_laws_szMarkS,w,h,h']
 ·have h' : ¬ n - ts.length < 0 := by omega
  simp [F_laws_szMarkS,w,h,h']
theorem c_toMarkS (ts : List T) (hb : (ts.length : Int) ≤ 1048576) : call lf n_laws_toMarkS [.sl 0 (ts.map e2)] = some (.fr 2 (ts.map e2),[]) := by
 rw [call_k lf n_laws_toMarkS _ (F := F_laws_toMarkS) rfl rfl]
 have L : ex lf F_laws_toMarkS_W0 ⟨[(0,.sl 0 (ts.map e2)),(3,.own 3600 ts.length 0 ts.length),(4,.i 0)],[(3600,cz ts 0)]⟩ =
   some (.exit 0,⟨[(0,.sl 0 (ts.map e2)),(3,.own 3600 ts.length 0 ts.length),(4,.i ts.length)],[(3600,cz ts ts.length)]⟩) := by
  refine loop_count ts.length (fun i => ⟨[(0,.sl 0 (ts.map e2)),(3,.own 3600 ts.length 0 ts.length),(4,.i i)],[(3600,cz ts i)]⟩) (fun i hi => ?_) ?_ (by simp)
  ·obtain ⟨t,q1,q2,q3,q4⟩ := at_e2 hi
   have w1 : wr ((i : Int) + 1) = (i : Int) + 1 := wr_id (by omega) (by omega)
   have c1 := cz_len (ts := ts) (i := i) (by omega)
   have c2 := cz_get hi
   have c3 := cz_set hi q4
   have C := c_toMark t
   simp only [e2] at C
   simp [F_laws_toMarkS_L0,hi,q3,w1,c1,c2,c3,C]
  ·simp [F_laws_toMarkS_L0]
 have b1 : (ts.length : Int) ≤ bound := by unfold bound; omega
 rw [cz_zero,cz_all] at L
 simp [F_laws_toMarkS,b1,L]
theorem c_eqMark (t u : T) : call lf n_laws_eqMark [e2 t,e2 u] = some (.b (t.1 == u.1 && t.2 == u.2),[]) := by
 rw [call_k lf n_laws_eqMark _ (F := F_laws_eqMark) rfl rfl]
 by_cases h1 : t.1 = u.1
 ·by_cases h2 : t.2 = u.2
  ·simp [F_laws_eqMark,e2,h1,h2]
  ·have h3 : (t.2 != u.2) = true := bne_iff_ne.2 h2
   have h4 : (t.2 == u.2) = false := beq_eq_false_iff_ne.2 h2
   simp [F_laws_eqMark,e2,h1,h3,h4]
 ·have h3 : (t.1 != u.1) = true := bne_iff_ne.2 h1
  have h4 : (t.1 == u.1) = false := beq_eq_false_iff_ne.2 h1
  simp [F_laws_eqMark,e2,h3,h4]
theorem c_eqMarkS_self (aS : List T) (ha : (aS.length : Int) ≤ 1048576) : call lf n_laws_eqMarkS [.sl 0 (aS.map e2),.sl 0 (aS.map e2)] = some (.b true,[]) := by
 rw [call_k lf n_laws_eqMarkS _ (F := F_laws_eqMarkS) rfl rfl]
 have L : ex lf F_laws_eqMarkS_W0 ⟨[(0,.sl 0 (aS.map e2)),(1,.sl 0 (aS.map e2)),(5,.i 0)],[]⟩ = some (.exit 0,⟨[(0,.sl 0 (aS.map e2)),(1,.sl 0 (aS.map e2)),(5,.i aS.length)],[]⟩) := by
  refine loop_count aS.length (fun i => ⟨[(0,.sl 0 (aS.map e2)),(1,.sl 0 (aS.map e2)),(5,.i i)],[]⟩) (fun i hi => ?_) ?_ (by simp)
  ·obtain ⟨t,q1,q2,q3,q4⟩ := at_e2 hi
   have w1 : wr ((i : Int) + 1) = (i : Int) + 1 := wr_id (by omega) (by omega)
   have C := c_eqMark t t
   simp only [e2,beq_self_eq_true,Bool.and_self] at C
   simp [F_laws_eqMarkS_L0,hi,q3,w1,C]
  ·simp [F_laws_eqMarkS_L0]
 simp [F_laws_eqMarkS,L]
end
section
theorem mid_at {A B : List DV} {i : Nat} (h : A.length = i) (x : DV) : atN (A ++ x :: B) i = some x := by
 show (A ++ x :: B)[i]? = _
 rw [List.getElem?_append_right (by omega),h]; simp
theorem mid_set {A B : List DV} {i : Nat} (h : A.length = i) (x y : DV) : (A ++ x :: B).set i y = A ++ y :: B := by
 rw [List.set_append_right _ _ (by omega),h]; simp
theorem split_at {es : List DV} {i : Nat} (hi : i < es.length) : es.drop i = es[i] :: es.drop (i + 1) := List.drop_eq_getElem_cons hi
def mk2 (k : Int) (n : Nat) : List DV := (List.range n).map fun (j : Nat) => DV.st [.i (k + 2 * (j : Int)),.i (k + 2 * (j : Int) + 1)]
theorem mk2_len (k : Int) (n : Nat) : (mk2 k n).length = n := by simp [mk2]
theorem mk2_succ (k : Int) (n : Nat) : mk2 k (n + 1) = mk2 k n ++ [.st [.i (k + 2 * n),.i (k + 2 * n + 1)]] := by simp [mk2,List.range_succ]
theorem mk2_map (k : Int) (n : Nat) : ∃ u : List T,mk2 k n = u.map e2 ∧ u.length = n := ⟨(List.range n).map fun (j : Nat) => (k + 2 * (j : Int),k + 2 * (j : Int) + 1),by simp [mk2,e2],by simp⟩
theorem tk_n {u : List DV} {n : Nat} (h : u.length = n) : List.take n u = u := List.take_of_length_le (by omega)
set_option maxHeartbeats 4000000 in
theorem c_markMarkS (xs : List T) (k : Int) (k0 : 0 ≤ k) (k1 : k ≤ 1000000000) (hl : xs.length ≤ 1048576) : call lf n_laws_markMarkS [.fr 2 (xs.map e2),.i k] = some (.i (k + 2 * xs.length),[.fr 2 (mk2 k xs.length)]) := by
 rw [call_k lf n_laws_markMarkS _ (F := F_laws_markMarkS) rfl rfl]
 have L := loop_count (lf := lf) (L := F_laws_markMarkS_L0) xs.length (fun i => ⟨[(0,.own 23 xs.length 0 xs.length),(1,.i (k + 2 * i)),(5,.i i)],[(23,mk2 k i ++ (xs.map e2).drop i)]⟩) (x := .exit 0) (R := ⟨[(0,.own 23 xs.length 0 xs.length),(1,.i (k + 2 * xs.length)),(5,.i xs.length)],[(23,mk2 k xs.length ++ (xs.map e2).drop xs.length)]⟩) (fun i hi => by
  have w1 : wr ((i : Int) + 1) = (i : Int) + 1 := wr_id (by omega) (by omega)
  have w2 : wr (k + 2 * i + 1) = k + 2 * i + 1 := wr_id (by omega) (by omega)
  have w3 : wr (k + 2 * i + 1 + 1) = k + 2 * (i + 1 : Nat) := by rw [wr_id (by omega) (by omega)]; omega
  have hi' : (i : Int) < xs.length := by omega
  have e := split_at (es := xs.map e2) (i := i) (by simpa using hi)
  rw [List.getElem_map] at e
  rw [mk2_succ,e]
  have hA := mk2_len k i
  have lB : (List.drop (i + 1) (xs.map e2)).length = xs.length - (i + 1) := by simp
  generalize xs[i] = x at *
  generalize List.drop (i + 1) (xs.map e2) = B at *
  generalize mk2 k i = A at *
  have q1 := mid_at (B := B) hA
  have q2 := mid_set (B := B) hA
  have q3 : ∀ x : DV,(A ++ x :: B).length = xs.length := fun x => by simp [hA,lB]; omega
  rw [show A ++ [DV.st [DV.i (k + 2 * ↑i),DV.i (k + 2 * ↑i + 1)]] ++ B = A ++ DV.st [DV.i (k + 2 * ↑i),DV.i (k + 2 * ↑i + 1)] :: B by simp]
  have q4 : ∀ a b : DV,1 ≤ [a,b].length := fun a b => by simp
  have q5 : ∀ a b : DV,2 ≤ [a,b].length := fun a b => by simp
  simp [F_laws_markMarkS_L0,e2,hi,hi',w1,w2,w3,q1,q2,q3,q4,q5,-List.length_append,-List.length_cons]) (by
  have lm := mk2_len k xs.length
  simp [F_laws_markMarkS_L0,lm]) (by simp)
 have z : mk2 k 0 ++ (xs.map e2).drop 0 = xs.map e2 := by simp [mk2]
 rw [z] at L
 have zn : mk2 k xs.length ++ (xs.map e2).drop xs.length = mk2 k xs.length := by simp
 rw [zn] at L
 have L' : ex lf F_laws_markMarkS_W0 ⟨[(0,.own 23 xs.length 0 xs.length),(1,.i k),(5,.i 0)],[(23,xs.map e2)]⟩ = some (.exit 0,⟨[(0,.own 23 xs.length 0 xs.length),(1,.i (k + 2 * xs.length)),(5,.i xs.length)],[(23,mk2 k xs.length)]⟩) := by
  have := L
  simp only [Int.natCast_zero,Int.mul_zero,Int.add_zero] at this
  exact this
 have lm := mk2_len k xs.length
 simp [F_laws_markMarkS,L',lm]
end
section
/-- a mark read with p parts before it -/
def mkS (m p : Int) (t : T) : Option Int :=
 if t.1 = 0 then (if 0 ≤ t.2 ∧ t.2 < m then some (p + 1) else none)
 else if t.1 = 1 then (if t.2 = 0 ∧ 1 ≤ p then some p else none)
 else if t.1 = 2 ∨ t.1 = 3 then (if t.2 = 0 ∧ 2 ≤ p then some (p - 1) else none)
 else none
def runM (m : Int) : Int → List T → Option Int
 | p,[] => some p
 | p,t :: r => match mkS m p t with
  | some q => runM m q r
  | none => none
def tmOk (m : Int) (ts : List T) : Bool := nOk m && decide ((ts.length : Int) ≤ 13) && runM m 0 ts == some 1
theorem c_impl_partsTaken (k : Int) : call lf n_impl_partsTaken [.i k] = some (.i (if k = 0 then 0 else if k = 1 then 1 else 2),[]) := by
 rw [call_k lf n_impl_partsTaken _ (F := F_impl_partsTaken) rfl rfl]
 by_cases h0 : k = 0
 ·simp [F_impl_partsTaken,h0]
 ·have h0' : (k == 0) = false := beq_eq_false_iff_ne.2 h0
  by_cases h1 : k = 1
  ·simp [F_impl_partsTaken,h1]
  ·have h1' : (k == 1) = false := beq_eq_false_iff_ne.2 h1
   simp [F_impl_partsTaken,h0,h1,h0',h1']
theorem c_impl_markOk (m k a : Int) (hm : nOk m = true) : call lf n_impl_markOk [.i m,.st [.i k,.i a]] = some (.b (if k = 0 then decide (0 ≤ a ∧ a < m) else decide ((1 ≤ k ∧ k ≤ 3) ∧ a = 0)),[]) := by
 rw [call_k lf n_impl_markOk _ (F := F_impl_markOk) rfl rfl]
 have hm' := nOk_iff.1 hm
 have w : wr (m - 1) = m - 1 := wr_id (by omega) (by omega)
 by_cases h0 : k = 0
 ·have e : decide (0 ≤ a ∧ a ≤ m - 1) = decide (0 ≤ a ∧ a < m) := decide_eq_decide.2 (by omega)
  simp [F_impl_markOk,h0,w,c_impl_isWithin,e]
 ·have h0' : (k == 0) = false := beq_eq_false_iff_ne.2 h0
  by_cases h1 : 1 ≤ k ∧ k ≤ 3
  ·have d1 : decide (1 ≤ k ∧ k ≤ 3) = true := decide_eq_true h1
   have e : decide ((1 ≤ k ∧ k ≤ 3) ∧ a = 0) = (a == 0) := by
    by_cases ha : a = 0
    ·simp [ha,h1]
    ·have ha' : (a == 0) = false := beq_eq_false_iff_ne.2 ha
     rw [ha']; simp [ha]
   simp [F_impl_markOk,h0,h0',c_impl_isWithin,d1,e]
  ·have d1 : decide (1 ≤ k ∧ k ≤ 3) = false := decide_eq_false h1
   have e : decide ((1 ≤ k ∧ k ≤ 3) ∧ a = 0) = false := decide_eq_false (fun h => h1 h.1)
   simp [F_impl_markOk,h0,h0',c_impl_isWithin,d1,e]
set_option maxHeartbeats 4000000 in
theorem l_impl_TermOk (m : Int) (hm : nOk m = true) (n : Int) (hb : n < 1099511627776) (es : List DV) (rest : List T) : ∀ k p : Int,0 ≤ k → k + (rest.map e2).length = n → es.drop k.toNat = rest.map e2 → 0 ≤ p → p ≤ k →
  ex lf F_impl_TermOk_W0 ⟨[(0,.i m),(5,.i p),(18,.sl 0 es),(19,.i n),(20,.i k)],[]⟩ =
  match runM m p rest with
  | some q => some (.exit 0,⟨[(0,.i m),(5,.i q),(18,.sl 0 es),(19,.i n),(20,.i n)],[]⟩)
  | none => some (.ret,⟨[(4,.b false)],[]⟩) := by
 induction rest with
 | nil =>
  intro k p h0 hn hd _ _
  rw [w_impl_TermOk_0]
  have hk : k = n := by simpa using hn
  simp [F_impl_TermOk_L0,hk,runM]
 | cons t rest ih =>
  intro k p h0 hn hd hp hpk
  obtain ⟨q1,q2,q3,q4,q5,q6⟩ := stp h0 hn hb hd
  have mk := c_impl_markOk m t.1 t.2 hm
  simp only [e2] at q2
  have nb : k ≤ 1099511627776 := by omega
  have w0 : wr (1 : Int) = 1 := wr_id (by omega) (by omega)
  have w1 : wr (p + 1) = p + 1 := wr_id (by omega) (by omega)
  have w2 : wr p = p := wr_id (by omega) (by omega)
  have w3 : wr (-1 : Int) = -1 := wr_id (by omega) (by omega)
  have w4 : wr (p + -1) = p + -1 := wr_id (by omega) (by omega)
  have w5 : wr (0 : Int) = 0 := wr_id (by omega) (by omega)
  obtain ⟨kd,a⟩ := t
  simp only at mk q2
  rw [w_impl_TermOk_0,runM]
  have iha := ih (k + 1) (p + 1) q4 q5 q6 (by omega) (by omega)
  have ihb := ih (k + 1) p q4 q5 q6 (by omega) (by omega)
  by_cases k0 : kd = 0
  ·subst k0
   by_cases ha : 0 ≤ a ∧ a < m
   ·have e : mkS m p (0,a) = some (p + 1) := by simp [mkS,ha]
    have d : decide (0 ≤ a ∧ a < m) = true := decide_eq_true ha
    simp only [if_true,d] at mk
    have np : ¬ p < 0 := by omega
    simp [F_impl_TermOk_L0,q1,q2,q3,mk,c_impl_partsTaken,np,w0,w1,iha,e]
   ·have e : mkS m p (0,a) = none := by simp only [mkS,if_true,if_neg ha]
    have d : decide (0 ≤ a ∧ a < m) = false := decide_eq_false ha
    simp only [if_true,d] at mk
    simp [F_impl_TermOk_L0,q1,q2,q3,mk,c_impl_partsTaken,e]
  ·rw [if_neg k0] at mk
   by_cases k1 : kd = 1
   ·subst k1
    by_cases ha : a = 0
    ·subst ha
     by_cases hp1 : 1 ≤ p
     ·have e : mkS m p (1,0) = some p := by simp [mkS,hp1]
      have np : ¬ p < 1 := by omega
      simp at mk
      simp [F_impl_TermOk_L0,q1,q2,q3,mk,c_impl_partsTaken,np,w2,w5,ihb,e]
     ·have e : mkS m p (1,0) = none := by simp [mkS,hp1]
      have np : p < 1 := by omega
      simp at mk
      simp [F_impl_TermOk_L0,q1,q2,q3,mk,c_impl_partsTaken,np,e]
    ·have e : mkS m p (1,a) = none := by simp [mkS,ha]
     have d : decide ((1 ≤ (1 : Int) ∧ (1 : Int) ≤ 3) ∧ a = 0) = false := decide_eq_false (fun h => ha h.2)
     rw [d] at mk
     simp [F_impl_TermOk_L0,q1,q2,q3,mk,c_impl_partsTaken,e]
   ·by_cases k2 : kd = 2 ∨ kd = 3
    ·by_cases ha : a = 0
     ·subst ha
      have d : decide ((1 ≤ kd ∧ kd ≤ 3) ∧ (0 : Int) = 0) = true := decide_eq_true ⟨by omega,rfl⟩
      rw [d] at mk
      by_cases hp1 : 2 ≤ p
      ·have e : mkS m p (kd,0) = some (p - 1) := by simp [mkS,k0,k1,k2,hp1]
       have np : ¬ p < 2 := by omega
       have ihc := ih (k + 1) (p - 1) q4 q5 q6 (by omega) (by omega)
       simp only [Int.sub_eq_add_neg] at ihc e
       simp [F_impl_TermOk_L0,q1,q2,q3,mk,c_impl_partsTaken,k0,k1,np,w3,w4,ihc,e]
      ·have e : mkS m p (kd,0) = none := by simp [mkS,k0,k1,k2,hp1]
       have np : p < 2 := by omega
       simp [F_impl_TermOk_L0,q1,q2,q3,mk,c_impl_partsTaken,k0,k1,np,e]
     ·have e : mkS m p (kd,a) = none := by simp [mkS,k0,k1,k2,ha]
      have d : decide ((1 ≤ kd ∧ kd ≤ 3) ∧ a = 0) = false := decide_eq_false (fun h => ha h.2)
      rw [d] at mk
      simp [F_impl_TermOk_L0,q1,q2,q3,mk,c_impl_partsTaken,k0,k1,e]
    ·have e : mkS m p (kd,a) = none := by simp [mkS,k0,k1,k2]
     have d : decide ((1 ≤ kd ∧ kd ≤ 3) ∧ a = 0) = false := decide_eq_false (fun h => by omega)
     rw [d] at mk
     simp [F_impl_TermOk_L0,q1,q2,q3,mk,c_impl_partsTaken,k0,k1,e]
theorem c_impl_TermOk (m : Int) (ts : List T) (hb : (ts.length : Int) < 1099511627776) : call lf n_impl_TermOk [.i m,.sl 0 (ts.map e2)] = some (.b (tmOk m ts),[]) := by
 rw [call_k lf n_impl_TermOk _ (F := F_impl_TermOk) rfl rfl]
 cases h1 : nOk m with
 | false => simp [F_impl_TermOk,c_impl_manyOk,h1,tmOk]
 | true =>
  by_cases h2 : 1 ≤ (ts.length : Int) ∧ (ts.length : Int) ≤ 13
  ·have d : decide (1 ≤ (ts.length : Int) ∧ (ts.length : Int) ≤ 13) = true := decide_eq_true h2
   have L := l_impl_TermOk m h1 ts.length hb (ts.map e2) ts 0 0 (by omega) (by simp) (by simp) (by omega) (by omega)
   have d2 : decide ((ts.length : Int) ≤ 13) = true := decide_eq_true h2.2
   cases hr : runM m 0 ts with
   | none =>
    rw [hr] at L
    simp [F_impl_TermOk,c_impl_manyOk,c_impl_isWithin,h1,d,L,tmOk,hr]
   | some q =>
    rw [hr] at L
    have e : tmOk m ts = (q == 1) := by
     rw [tmOk,h1,d2,hr]
     cases hq : q == 1 <;> simp_all
    simp [F_impl_TermOk,c_impl_manyOk,c_impl_isWithin,h1,d,L,e]
  ·have d : decide (1 ≤ (ts.length : Int) ∧ (ts.length : Int) ≤ 13) = false := decide_eq_false h2
   have e : tmOk m ts = false := by
    by_cases h3 : (ts.length : Int) ≤ 13
    ·have : ts = [] := List.eq_nil_of_length_eq_zero (by omega)
     subst this
     simp [tmOk,runM]
    ·simp only [tmOk,decide_eq_false h3,Bool.and_false,Bool.false_and]
   simp [F_impl_TermOk,c_impl_manyOk,c_impl_isWithin,h1,d,e]
set_option maxHeartbeats 4000000 in
theorem l_spec_TermOk (m : Int) (n : Int) (hb : n < 1099511627776) (es : List DV) (hE : (es.length : Int) = n) (rest : List T) : ∀ k p : Int,0 ≤ k → k + (rest.map e2).length = n → es.drop k.toNat = rest.map e2 → 0 ≤ p → p ≤ k →
  ex lf F_spec_TermOk_W0 ⟨[(0,.i m),(1,.sl 0 es),(5,.i p),(6,.i k)],[]⟩ =
  match runM m p rest with
  | some q => some (.exit 0,⟨[(0,.i m),(1,.sl 0 es),(5,.i q),(6,.i n)],[]⟩)
  | none => some (.ret,⟨[(4,.b false)],[]⟩) := by
 induction rest with
 | nil =>
  intro k p h0 hn hd _ _
  rw [w_spec_TermOk_0]
  have hk : k = n := by simpa using hn
  simp [F_spec_TermOk_L0,hk,hE,runM]
 | cons t rest ih =>
  intro k p h0 hn hd hp hpk
  obtain ⟨q1,q2,q3,q4,q5,q6⟩ := stp h0 hn hb hd
  simp only [e2] at q2
  have w1 : wr (p + 1) = p + 1 := wr_id (by omega) (by omega)
  have w2 : wr (p - 1) = p - 1 := wr_id (by omega) (by omega)
  obtain ⟨kd,a⟩ := t
  simp only at q2
  rw [w_spec_TermOk_0,runM]
  have iha := ih (k + 1) (p + 1) q4 q5 q6 (by omega) (by omega)
  have ihb := ih (k + 1) p q4 q5 q6 (by omega) (by omega)
  by_cases k0 : kd = 0
  ·subst k0
   by_cases ha : 0 ≤ a
   ·by_cases hb : a < m
    ·have e : mkS m p (0,a) = some (p + 1) := by simp [mkS,ha,hb]
     simp [F_spec_TermOk_L0,q1,q2,q3,hE,ha,hb,w1,iha,e,eqI]
    ·have e : mkS m p (0,a) = none := by simp [mkS,hb]
     simp [F_spec_TermOk_L0,q1,q2,q3,hE,ha,hb,e,eqI]
   ·have e : mkS m p (0,a) = none := by simp [mkS,ha]
    simp [F_spec_TermOk_L0,q1,q2,q3,hE,ha,e,eqI]
  ·have k0' : (kd == 0) = false := beq_eq_false_iff_ne.2 k0
   by_cases ha : a = 0
   ·subst ha
    by_cases k1 : kd = 1
    ·subst k1
     by_cases hp1 : 1 ≤ p
     ·have e : mkS m p (1,0) = some p := by simp [mkS,hp1]
      simp [F_spec_TermOk_L0,q1,q2,q3,hE,hp1,ihb,e,eqI]
     ·have e : mkS m p (1,0) = none := by simp [mkS,hp1]
      simp [F_spec_TermOk_L0,q1,q2,q3,hE,hp1,e,eqI]
    ·have k1' : (kd == 1) = false := beq_eq_false_iff_ne.2 k1
     by_cases hp1 : 2 ≤ p
     ·have ihc := ih (k + 1) (p - 1) q4 q5 q6 (by omega) (by omega)
      by_cases k2 : kd = 2
      ·subst k2
       have e : mkS m p (2,0) = some (p - 1) := by simp [mkS,hp1]
       simp [F_spec_TermOk_L0,q1,q2,q3,hE,hp1,w2,ihc,e,eqI]
      ·have k2' : (kd == 2) = false := beq_eq_false_iff_ne.2 k2
       by_cases k3 : kd = 3
       ·subst k3
        have e : mkS m p (3,0) = some (p - 1) := by simp [mkS,hp1]
        simp [F_spec_TermOk_L0,q1,q2,q3,hE,hp1,w2,ihc,e,eqI]
       ·have k3' : (kd == 3) = false := beq_eq_false_iff_ne.2 k3
        have e : mkS m p (kd,0) = none := by simp [mkS,k0,k1,k2,k3]
        simp [F_spec_TermOk_L0,q1,q2,q3,hE,k0',k1',k2',k3',k0,k1,k2,k3,hp1,e,eqI]
     ·have e : mkS m p (kd,0) = none := by simp [mkS,k0,k1,hp1]
      by_cases k2 : kd = 2
      ·subst k2
       simp [F_spec_TermOk_L0,q1,q2,q3,hE,hp1,e,eqI]
      ·have k2' : (kd == 2) = false := beq_eq_false_iff_ne.2 k2
       by_cases k3 : kd = 3
       ·subst k3
        simp [F_spec_TermOk_L0,q1,q2,q3,hE,hp1,e,eqI]
       ·have k3' : (kd == 3) = false := beq_eq_false_iff_ne.2 k3
        simp [F_spec_TermOk_L0,q1,q2,q3,hE,k0',k1',k2',k3',k0,k1,k2,k3,hp1,e,eqI]
   ·have e : mkS m p (kd,a) = none := by simp [mkS,k0,ha]
    have ha' : (a == 0) = false := beq_eq_false_iff_ne.2 ha
    have q : ∀ c : Int,eqI [.i kd,.i a] [.i c,.i 0] = some false := by
     intro c
     by_cases h : kd = c <;> simp [eqI,h,ha]
    simp [F_spec_TermOk_L0,q1,q2,q3,hE,k0',k0,e,q]
theorem c_spec_TermOk (m : Int) (ts : List T) (hb : (ts.length : Int) < 1099511627776) : call lf n_spec_TermOk [.i m,.sl 0 (ts.map e2)] = some (.b (tmOk m ts),[]) := by
 rw [call_k lf n_spec_TermOk _ (F := F_spec_TermOk) rfl rfl]
 have L := l_spec_TermOk m ts.length hb (ts.map e2) (by simp) ts 0 0 (by omega) (by simp) (by simp) (by omega) (by omega)
 have em : nOk m = decide (1 ≤ m ∧ m ≤ 5) := rfl
 cases hr : runM m 0 ts with
 | none =>
  rw [hr] at L
  have e : tmOk m ts = false := by simp [tmOk,hr]
  simp [F_spec_TermOk,L,e]
 | some q =>
  rw [hr] at L
  cases h1 : decide (1 ≤ m ∧ m ≤ 5) with
  | false =>
   have e : tmOk m ts = false := by simp [tmOk,em,h1]
   simp [F_spec_TermOk,c_spec_l1In,L,h1,e]
  | true =>
   by_cases hq : q = 1
   ·subst hq
    have e : tmOk m ts = decide ((ts.length : Int) ≤ 13) := by rw [tmOk,em,h1,hr]; simp
    simp [F_spec_TermOk,c_spec_l1In,L,h1,e]
   ·have hq' : (q == 1) = false := beq_eq_false_iff_ne.2 hq
    have e : tmOk m ts = false := by rw [tmOk,em,h1,hr]; simp [hq]
    simp [F_spec_TermOk,c_spec_l1In,L,h1,hq',e]

theorem tmOk_iff {m : Int} {ts : List T} : tmOk m ts = true ↔ (1 ≤ m ∧ m ≤ 5) ∧ (ts.length : Int) ≤ 13 ∧ runM m 0 ts = some 1 := by
 rw [tmOk,Bool.and_eq_true,Bool.and_eq_true,nOk_iff,decide_eq_true_eq,beq_iff_eq,and_assoc]
end
section
inductive Tm where
 | tst (a : Nat)
 | neg (x : Tm)
 | and (x y : Tm)
 | or (x y : Tm)
def flt : Tm → List T
 | .tst a => [(0,(a : Int))]
 | .neg x => flt x ++ [(1,0)]
 | .and x y => flt x ++ flt y ++ [(2,0)]
 | .or x y => flt x ++ flt y ++ [(3,0)]
def tb (m : Int) : Tm → Prop
 | .tst a => (a : Int) < m
 | .neg x => tb m x
 | .and x y => tb m x ∧ tb m y
 | .or x y => tb m x ∧ tb m y
def ev (s : Nat) : Tm → Bool
 | .tst a => s.testBit a
 | .neg x => !ev s x
 | .and x y => ev s x && ev s y
 | .or x y => ev s x || ev s y
theorem flt_pos : ∀ x : Tm,0 < (flt x).length
 | .tst a => by simp [flt]
 | .neg x => by simp [flt]
 | .and x y => by simp [flt]; omega
 | .or x y => by simp [flt]; omega
/-- how many parts a mark takes -/
def taken (k : Int) : Nat := if k = 0 then 0 else if k = 1 then 1 else 2
def stepG {P : Type} (mk : T → List P → P) (st : List P) (t : T) : List P := st.take (st.length - taken t.1) ++ [mk t (st.drop (st.length - taken t.1))]
def valG {P : Type} (mk : T → List P → P) : Tm → P
 | .tst a => mk (0,(a : Int)) []
 | .neg x => mk (1,0) [valG mk x]
 | .and x y => mk (2,0) [valG mk x,valG mk y]
 | .or x y => mk (3,0) [valG mk x,valG mk y]
theorem stepG_0 {P : Type} (mk : T → List P → P) (st : List P) (a : Int) : stepG mk st (0,a) = st ++ [mk (0,a) []] := by
 simp [stepG,taken]
theorem stepG_1 {P : Type} (mk : T → List P → P) (st : List P) (x : P) (a : Int) : stepG mk (st ++ [x]) (1,a) = st ++ [mk (1,a) [x]] := by
 simp [stepG,taken]
theorem stepG_2 {P : Type} (mk : T → List P → P) (st : List P) (x y : P) (k a : Int) (h : k = 2 ∨ k = 3) : stepG mk (st ++ [x,y]) (k,a) = st ++ [mk (k,a) [x,y]] := by
 have e : taken k = 2 := by unfold taken; rw [if_neg (by omega),if_neg (by omega)]
 simp [stepG,e]
theorem last1 {α : Type} {l : List α} (h : 1 ≤ l.length) : ∃ r x,l = r ++ [x] := by
 have := List.dropLast_concat_getLast (l := l) (by intro e; rw [e] at h; simp at h)
 exact ⟨_,_,this.symm⟩
theorem last2 {α : Type} {l : List α} (h : 2 ≤ l.length) : ∃ r x y,l = r ++ [x,y] := by
 obtain ⟨r,y,rfl⟩ := last1 (by omega : 1 ≤ l.length)
 obtain ⟨r',x,rfl⟩ := last1 (by simp at h; omega : 1 ≤ r.length)
 exact ⟨r',x,y,by simp⟩
theorem forest {m : Int} : ∀ {ts : List T} {p q : Int},runM m p ts = some q → ∀ F : List Tm,(F.length : Int) = p → (∀ x ∈ F,tb m x) →
  ∃ F' : List Tm,(F'.length : Int) = q ∧ (∀ x ∈ F',tb m x) ∧ F'.flatMap flt = F.flatMap flt ++ ts ∧ ∀ (P : Type) (mk : T → List P → P),ts.foldl (stepG mk) (F.map (valG mk)) = F'.map (valG mk)
 | [],p,q,h,F,hl,hb => by
  simp only [runM,Option.some.injEq] at h
  exact ⟨F,by omega,hb,by simp,fun P mk => rfl⟩
 | t :: ts,p,q,h,F,hl,hb => by
  simp only [runM] at h
  have go : ∀ (G : List Tm),runM m (G.length : Int) ts = some q → (∀ x ∈ G,tb m x) → G.flatMap flt = F.flatMap flt ++ [t] → (∀ (P : Type) (mk : T → List P → P),stepG mk (F.map (valG mk)) t = G.map (valG mk)) →
    ∃ F' : List Tm,(F'.length : Int) = q ∧ (∀ x ∈ F',tb m x) ∧ F'.flatMap flt = F.flatMap flt ++ (t :: ts) ∧ ∀ (P : Type) (mk : T → List P → P),(t :: ts).foldl (stepG mk) (F.map (valG mk)) = F'.map (valG mk) := by
   intro G h1 h2 h3 h4
   obtain ⟨F',q1,q2,q3,q4⟩ := forest h1 G rfl h2
   refine ⟨F',q1,q2,by rw [q3,h3]; simp,fun P mk => ?_⟩
   rw [List.foldl_cons,h4,q4]
  obtain ⟨k,a⟩ := t
  cases hm : mkS m p (k,a) with
  | none => rw [hm] at h; cases h
  | some p1 =>
   rw [hm] at h
   simp only at h
   unfold mkS at hm
   simp only at hm
   split at hm
   ·rename_i hk
    subst hk
    split at hm
    ·rename_i ha
     injection hm with hm
     obtain ⟨n,rfl⟩ := Int.eq_ofNat_of_zero_le ha.1
     refine go (F ++ [.tst n]) (by rw [show (((F ++ [Tm.tst n]).length : Nat) : Int) = p1 by simp; omega]; exact h) (fun x hx => ?_) (by simp [flt]) (fun P mk => by rw [stepG_0]; simp [valG])
     rcases List.mem_append.1 hx with h1 | h1
     ·exact hb x h1
     ·simp only [List.mem_singleton] at h1; subst h1; exact ha.2
    ·cases hm
   ·split at hm
    ·rename_i _ hk
     subst hk
     split at hm
     ·rename_i ha
      injection hm with hm
      obtain ⟨r,x,rfl⟩ := last1 (l := F) (by omega)
      have ha0 := ha.1
      subst ha0
      refine go (r ++ [.neg x]) (by rw [show (((r ++ [Tm.neg x]).length : Nat) : Int) = p1 by simp at hl ⊢; omega]; exact h) (fun y hy => ?_) (by simp [flt]) (fun P mk => by rw [List.map_append]; simp only [List.map_cons,List.map_nil]; rw [stepG_1]; simp [valG])
      rcases List.mem_append.1 hy with h1 | h1
      ·exact hb y (List.mem_append_left _ h1)
      ·simp only [List.mem_singleton] at h1; subst h1; exact hb x (by simp)
     ·cases hm
    ·split at hm
     ·rename_i _ _ hk
      split at hm
      ·rename_i ha
       injection hm with hm
       obtain ⟨r,x,y,rfl⟩ := last2 (l := F) (by omega)
       have ha0 := ha.1
       subst ha0
       have hx := hb x (by simp)
       have hy := hb y (by simp)
       rcases hk with rfl | rfl
       ·refine go (r ++ [.and x y]) (by rw [show (((r ++ [Tm.and x y]).length : Nat) : Int) = p1 by simp at hl ⊢; omega]; exact h) (fun z hz => ?_) (by simp [flt]) (fun P mk => by rw [List.map_append]; simp only [List.map_cons,List.map_nil]; rw [stepG_2 _ _ _ _ _ _ (.inl rfl)]; simp [valG])
        rcases List.mem_append.1 hz with h1 | h1
        ·exact hb z (List.mem_append_left _ h1)
        ·simp only [List.mem_singleton] at h1; subst h1; exact ⟨hx,hy⟩
       ·refine go (r ++ [.or x y]) (by rw [show (((r ++ [Tm.or x y]).length : Nat) : Int) = p1 by simp at hl ⊢; omega]; exact h) (fun z hz => ?_) (by simp [flt]) (fun P mk => by rw [List.map_append]; simp only [List.map_cons,List.map_nil]; rw [stepG_2 _ _ _ _ _ _ (.inr rfl)]; simp [valG])
        rcases List.mem_append.1 hz with h1 | h1
        ·exact hb z (List.mem_append_left _ h1)
        ·simp only [List.mem_singleton] at h1; subst h1; exact ⟨hx,hy⟩
      ·cases hm
     ·cases hm
theorem tm_tree {m : Int} {ts : List T} (h : tmOk m ts = true) : ∃ x,tb m x ∧ flt x = ts ∧ ∀ (P : Type) (mk : T → List P → P),ts.foldl (stepG mk) [] = [valG mk x] := by
 obtain ⟨_,_,h3⟩ := tmOk_iff.1 h
 obtain ⟨F,q1,q2,q3,q4⟩ := forest h3 [] rfl (by simp)
 match F,q1 with
 | [x],_ => exact ⟨x,q2 x (by simp),by simpa using q3,fun P mk => by simpa using q4 P mk⟩

def yesW (a : Nat) : BitVec 32 := match a with
 | 0 => 2863311530#32
 | 1 => 3435973836#32
 | 2 => 4042322160#32
 | 3 => 4278255360#32
 | _ => 4294901760#32
def mkW (t : T) (ps : List (BitVec 32)) : BitVec 32 :=
 if t.1 = 0 then yesW t.2.toNat else if t.1 = 1 then ~~~(ps.getD 0 0) else if t.1 = 2 then ps.getD 0 0 &&& ps.getD 1 0 else ps.getD 0 0 ||| ps.getD 1 0
theorem yes_bit : ∀ (a : _root_.Fin 5) (s : _root_.Fin 32),(yesW a.val).getLsbD s.val = s.val.testBit a.val := by decide +kernel
theorem val_bit {m : Int} (hm : m ≤ 5) : ∀ {x : Tm},tb m x → ∀ {s : Nat},s < 32 → (valG mkW x).getLsbD s = ev s x
 | .tst a,h,s,hs => by
  have ha : a < 5 := by have : (a : Int) < m := h; omega
  have := yes_bit ⟨a,ha⟩ ⟨s,hs⟩
  simpa [valG,mkW,ev] using this
 | .neg x,h,s,hs => by
  have ih := val_bit hm (x := x) h hs
  have e : valG mkW (.neg x) = ~~~(valG mkW x) := by simp [valG,mkW]
  rw [e,BitVec.getLsbD_not,ih]
  simp [hs,ev]
 | .and x y,h,s,hs => by
  have i1 := val_bit hm (x := x) h.1 hs
  have i2 := val_bit hm (x := y) h.2 hs
  simp [valG,mkW,ev,i1,i2]
 | .or x y,h,s,hs => by
  have i1 := val_bit hm (x := x) h.1 hs
  have i2 := val_bit hm (x := y) h.2 hs
  simp [valG,mkW,ev,i1,i2]
def tsW (ts : List T) : BitVec 32 := (ts.foldl (stepG mkW) []).headD 0
/-- the value of a term in a state -/
def tv (ts : List T) (s : Nat) : Bool := (tsW ts).getLsbD s
theorem tv_tree {m : Int} {ts : List T} (h : tmOk m ts = true) : ∃ x,tb m x ∧ flt x = ts ∧ ts.foldl (stepG mkW) [] = [tsW ts] ∧ ∀ s,s < 32 → tv ts s = ev s x := by
 obtain ⟨h1,_,_⟩ := tmOk_iff.1 h
 obtain ⟨x,b,f,g⟩ := tm_tree h
 have e : tsW ts = valG mkW x := by unfold tsW; rw [g]; rfl
 exact ⟨x,b,f,by rw [g,e],fun s hs => by unfold tv; rw [e]; exact val_bit h1.2 b hs⟩
/-- A term reads no tests but its own. -/
theorem ev_congr {m : Int} {s s' : Nat} (h : ∀ a : Nat,(a : Int) < m → s.testBit a = s'.testBit a) : ∀ {x : Tm},tb m x → ev s x = ev s' x
 | .tst a,hb => h a hb
 | .neg x,hb => by simp only [ev,ev_congr h (x := x) hb]
 | .and x y,hb => by simp only [ev,ev_congr h (x := x) hb.1,ev_congr h (x := y) hb.2]
 | .or x y,hb => by simp only [ev,ev_congr h (x := x) hb.1,ev_congr h (x := y) hb.2]
end
section
def hs (bs : List Nat) (p : Int) : Int := (bs.getD (p.tmod bs.length).toNat 0 : Nat) * 131 + (bs.getD ((p * 7 + 3).tmod bs.length).toNat 0 : Nat) * 1117 + p * 29 + p.tdiv bs.length * 53
theorem byte_lt {bs : List Nat} (hb : ∀ y ∈ bs,y < 256) (i : Nat) : bs.getD i 0 < 256 := by
 by_cases h : i < bs.length
 ·have : bs.getD i 0 = bs[i] := by simp [List.getD,h]
  rw [this]
  exact hb _ (List.getElem_mem h)
 ·have : bs.getD i 0 = 0 := by simp [List.getD,List.getElem?_eq_none (by omega : bs.length ≤ i)]
  omega
end
section
theorem cells_st (cs : List DV) : (DV.st cs).cells = cs := rfl
theorem cells_sl (p : Nat) (es : List DV) : (DV.sl p es).cells = [DV.sl p es] := rfl
theorem cells_i (n : Int) : (DV.i n).cells = [DV.i n] := rfl
theorem cells_y (n : Nat) : (DV.y n).cells = [DV.y n] := rfl
theorem cells_b (n : Bool) : (DV.b n).cells = [DV.b n] := rfl
theorem cells_s (n : List UInt8) : (DV.s n).cells = [DV.s n] := rfl
attribute [-simp] DV.cells
attribute [local simp] cells_st cells_sl cells_i cells_y cells_b cells_s
def row (t : List T) : DV := .sl 1 (t.map e2)
theorem e2_wid (t : List T) : ∀ e ∈ t.map e2,e.cells.length = 2 := by
 intro e he
 obtain ⟨t,_,rfl⟩ := List.mem_map.1 he
 rfl
theorem flat_set (m : T) : ∀ {ps : List (List T)} {A : Nat} {t : List T},ps[A]? = some t → (ps.set A (t ++ [m])).flatten.length = ps.flatten.length + 1
 | [],_,_,h => by simp at h
 | x :: ps,0,t,h => by simp at h; subst h; simp; omega
 | x :: ps,A + 1,t,h => by
  simp only [List.getElem?_cons_succ] at h
  have := flat_set m h
  simp at this ⊢
  omega
theorem flat_len : ∀ {ps : List (List T)} {A : Nat} {t : List T},ps[A]? = some t → t.length ≤ ps.flatten.length
 | [],_,_,h => by simp at h
 | x :: ps,0,t,h => by simp at h; subst h; simp
 | x :: ps,A + 1,t,h => by
  simp only [List.getElem?_cons_succ] at h
  have := flat_len h
  simp only [List.flatten_cons,List.length_append]; omega
end
section
attribute [-simp] DV.cells
attribute [local simp] cells_st cells_sl cells_i cells_y cells_b cells_s
theorem cells_w (x : BitVec 32) : (DV.w x).cells = [DV.w x] := rfl
attribute [local simp] cells_w
theorem c_impl_statesOfPart (k a : Int) (ps : List (BitVec 32)) (h : (k = 0 ∧ 0 ≤ a ∧ a < 5) ∨ (k = 1 ∧ 1 ≤ ps.length) ∨ ((k = 2 ∨ k = 3) ∧ 2 ≤ ps.length)) :
  call lf n_impl_statesOfPart [.st [.i k,.i a],.sl 0 (ps.map .w)] = some (.w (mkW (k,a) ps),[]) := by
 rw [call_k lf n_impl_statesOfPart _ (F := F_impl_statesOfPart) rfl rfl]
 rcases h with ⟨rfl,h0,h5⟩ | ⟨rfl,h1⟩ | ⟨hk,h2⟩
 ·have c5 : a = 0 ∨ a = 1 ∨ a = 2 ∨ a = 3 ∨ a = 4 := by omega
  rcases c5 with rfl | rfl | rfl | rfl | rfl <;> simp [F_impl_statesOfPart,gEnv_0,mkW,yesW]
 ·obtain ⟨x,xs,rfl⟩ : ∃ x xs,ps = x :: xs := by cases ps with | nil => simp at h1 | cons x xs => exact ⟨x,xs,rfl⟩
  simp [F_impl_statesOfPart,gEnv_0,mkW,atI]
 ·obtain ⟨x,y,xs,rfl⟩ : ∃ x y xs,ps = x :: y :: xs := by
   match ps,h2 with
   | x :: y :: xs,_ => exact ⟨x,y,xs,rfl⟩
  rcases hk with rfl | rfl <;> simp [F_impl_statesOfPart,gEnv_0,mkW,atI]
end
section
attribute [-simp] DV.cells
attribute [local simp] cells_st cells_sl cells_i cells_y cells_b cells_s cells_w
/-- the stack lies in front of what was there -/
def stF (n k : Int) (es : List DV) (N : Nat) (g : List DV) (st : List (BitVec 32)) : LS :=
 ⟨[(1,.fn n_impl_statesOfPart []),(5,.own 2568 N 0 st.length),(10,.sl 0 es),(11,.i n),(12,.i k)],[(2568,st.map .w ++ g)]⟩
set_option maxHeartbeats 4000000 in
theorem l_fold0 (n k : Int) (es : List DV) (N : Nat) (g : List DV) (st : List (BitVec 32)) (hN : N = st.length + g.length) (hl : st.length ≤ 1000) (a : Int) (h0 : 0 ≤ a) (h5 : a < 5) (hk : k < n) (hat : atI es k = some (.st [.i 0,.i a])) (hw : wr (k + 1) = k + 1) :
  ∃ N' g',N' = (stepG mkW st (0,a)).length + g'.length ∧ ex lf F_impl_foldTerm_uint32_L0 (stF n k es N g st) = some (.normal,stF n (k + 1) es N' g' (stepG mkW st (0,a))) := by
 have C := c_impl_statesOfPart 0 a [] (.inl ⟨rfl,h0,h5⟩)
 have P := c_impl_partsTaken 0
 have w1 : wr (st.length : Int) = st.length := wr_id (by omega) (by omega)
 have b1 : st.length + 1 ≤ bound := by unfold bound; omega
 rw [stepG_0]
 simp at C P
 cases g with
 | nil =>
  refine ⟨st.length + 1,[],by simp,?_⟩
  have hN' : N = st.length := by simpa using hN
  subst hN'
  unfold stF
  simp [F_impl_foldTerm_uint32_L0,hk,hat,hw,C,P,w1,b1]
 | cons y g =>
  refine ⟨N,g,by simp at hN ⊢; omega,?_⟩
  have hL : (st.map DV.w ++ y :: g).length = N := by rw [hN]; simp
  have t1 : List.take st.length (st.map DV.w ++ y :: g) = st.map .w := by rw [List.take_append_of_le_length (by simp),List.take_of_length_le (by simp)]
  have t2 : List.drop (st.length + 1) (st.map DV.w ++ y :: g) = g := by rw [List.drop_append]; simp
  have n1 : st.length < N := by rw [hN]; simp
  have n2 : st.length + 1 ≤ N := by omega
  have n3 : ¬ st.length = N := by omega
  have n4 : st.length ≤ N := by omega
  have t4 : List.drop st.length (st.map DV.w) = [] := List.drop_of_length_le (by simp)
  unfold stF
  generalize st.map DV.w ++ y :: g = L at *
  simp [F_impl_foldTerm_uint32_L0,hk,hat,hw,C,P,w1,b1,hL,t1,t2,t4,n1,n2,n3,n4]
set_option maxHeartbeats 4000000 in
theorem l_fold1 (n k : Int) (es : List DV) (N : Nat) (g : List DV) (st : List (BitVec 32)) (x : BitVec 32) (hN : N = (st ++ [x]).length + g.length) (hl : st.length ≤ 1000) (a : Int) (hk : k < n) (hat : atI es k = some (.st [.i 1,.i a])) (hw : wr (k + 1) = k + 1) :
  ∃ N' g',N' = (stepG mkW (st ++ [x]) (1,a)).length + g'.length ∧ ex lf F_impl_foldTerm_uint32_L0 (stF n k es N g (st ++ [x])) = some (.normal,stF n (k + 1) es N' g' (stepG mkW (st ++ [x]) (1,a))) := by
 have C := c_impl_statesOfPart 1 a [x] (.inr (.inl ⟨rfl,by simp⟩))
 have P := c_impl_partsTaken 1
 have w1 : wr (st.length : Int) = st.length := wr_id (by omega) (by omega)
 have b1 : st.length + 1 ≤ bound := by unfold bound; omega
 rw [stepG_1]
 simp at C P hN
 refine ⟨N,g,by simp; omega,?_⟩
 have hL : ((st ++ [x]).map DV.w ++ g).length = N := by rw [hN]; simp; omega
 have t1 : List.take st.length ((st ++ [x]).map DV.w ++ g) = st.map .w := by rw [List.map_append,List.append_assoc,List.take_append_of_le_length (by simp),List.take_of_length_le (by simp)]
 have t2 : List.drop (st.length + 1) ((st ++ [x]).map DV.w ++ g) = g := by rw [List.drop_append]; simp
 have t3 : List.drop st.length (List.take (st.length + 1) ((st ++ [x]).map DV.w ++ g)) = [.w x] := by
  rw [List.take_append_of_le_length (by simp),List.take_of_length_le (by simp),List.map_append,List.drop_append]; simp
 have n1 : st.length < N := by omega
 have n2 : st.length + 1 ≤ N := by omega
 have n3 : ¬ st.length = N := by omega
 have n4 : st.length ≤ N := by omega
 have l1 : (st.length : Int) ≤ st.length + 1 := by omega
 unfold stF
 generalize (st ++ [x]).map DV.w ++ g = L at *
 simp [F_impl_foldTerm_uint32_L0,hk,hat,hw,C,P,w1,b1,hL,t1,t2,t3,n1,n2,n3,n4,l1]
set_option maxHeartbeats 4000000 in
theorem l_fold2 (n k : Int) (es : List DV) (N : Nat) (g : List DV) (st : List (BitVec 32)) (x y : BitVec 32) (hN : N = (st ++ [x,y]).length + g.length) (hl : st.length ≤ 1000) (c a : Int) (hc : c = 2 ∨ c = 3) (hk : k < n) (hat : atI es k = some (.st [.i c,.i a])) (hw : wr (k + 1) = k + 1) :
  ∃ N' g',N' = (stepG mkW (st ++ [x,y]) (c,a)).length + g'.length ∧ ex lf F_impl_foldTerm_uint32_L0 (stF n k es N g (st ++ [x,y])) = some (.normal,stF n (k + 1) es N' g' (stepG mkW (st ++ [x,y]) (c,a))) := by
 have C := c_impl_statesOfPart c a [x,y] (.inr (.inr ⟨hc,by simp⟩))
 have P := c_impl_partsTaken c
 rw [if_neg (by omega),if_neg (by omega)] at P
 have w1 : wr (st.length : Int) = st.length := wr_id (by omega) (by omega)
 have b1 : st.length + 1 ≤ bound := by unfold bound; omega
 rw [stepG_2 _ _ _ _ _ _ hc]
 simp at C hN
 refine ⟨N,.w y :: g,by simp; omega,?_⟩
 have hL : ((st ++ [x,y]).map DV.w ++ g).length = N := by rw [hN]; simp; omega
 have t1 : List.take st.length ((st ++ [x,y]).map DV.w ++ g) = st.map .w := by rw [List.map_append,List.append_assoc,List.take_append_of_le_length (by simp),List.take_of_length_le (by simp)]
 have t2 : List.drop (st.length + 1) ((st ++ [x,y]).map DV.w ++ g) = .w y :: g := by
  rw [List.map_append,List.append_assoc,List.drop_append]; simp
 have t3 : List.drop st.length (List.take (st.length + 2) ((st ++ [x,y]).map DV.w ++ g)) = [.w x,.w y] := by
  rw [List.take_append_of_le_length (by simp),List.take_of_length_le (by simp),List.map_append,List.drop_append]; simp
 have n1 : st.length < N := by omega
 have n2 : st.length + 1 ≤ N := by omega
 have n3 : ¬ st.length = N := by omega
 have n4 : st.length ≤ N := by omega
 have n5 : st.length + 2 ≤ N := by omega
 have l1 : (st.length : Int) ≤ st.length + 2 := by omega
 have tn : ((st.length : Int) + 2).toNat = st.length + 2 := by omega
 unfold stF
 generalize (st ++ [x,y]).map DV.w ++ g = L at *
 simp [F_impl_foldTerm_uint32_L0,hk,hat,hw,C,P,w1,b1,hL,t1,t2,t3,n1,n2,n3,n4,n5,l1,tn]
theorem l_fold (m n : Int) (hm : m ≤ 5) (hb : n < 1000000) (es : List DV) : ∀ (rest : List T) (k p q : Int) (st : List (BitVec 32)) (N : Nat) (g : List DV),N = st.length + g.length → 0 ≤ k → k + rest.length = n → es.drop k.toNat = rest.map e2 → (st.length : Int) = p → runM m p rest = some q → st.length + rest.length ≤ 1000 →
  ∃ N' g',N' = (rest.foldl (stepG mkW) st).length + g'.length ∧ ex lf F_impl_foldTerm_uint32_W0 (stF n k es N g st) = some (.exit 0,stF n n es N' g' (rest.foldl (stepG mkW) st))
 | [],k,p,q,st,N,g,hN,h0,hn,hd,hp,hr,hl => by
  refine ⟨N,g,hN,?_⟩
  rw [w_impl_foldTerm_uint32_0]
  have hk : k = n := by simpa using hn
  subst hk
  unfold stF
  simp [F_impl_foldTerm_uint32_L0]
 | t :: rest,k,p,q,st,N,g,hN,h0,hn,hd,hp,hr,hl => by
  obtain ⟨s1,s2,s3,s4,s5,s6⟩ := stp (es := es) (xs := rest.map e2) (x := e2 t) (k := k) (n := n) h0 (by simpa using hn) (by omega) (by simpa using hd)
  simp only [List.length_cons] at hl
  have hmk := hr
  simp only [runM] at hr
  cases hm' : mkS m p t with
  | none => rw [hm'] at hr; cases hr
  | some p1 =>
   rw [hm'] at hr
   simp only at hr
   obtain ⟨c,a⟩ := t
   simp only [e2] at s2
   have go : (∃ N1 g1,N1 = (stepG mkW st (c,a)).length + g1.length ∧ ex lf F_impl_foldTerm_uint32_L0 (stF n k es N g st) = some (.normal,stF n (k + 1) es N1 g1 (stepG mkW st (c,a)))) → ((stepG mkW st (c,a)).length : Int) = p1 → (stepG mkW st (c,a)).length ≤ st.length + 1 →
     ∃ N' g',N' = (((c,a) :: rest).foldl (stepG mkW) st).length + g'.length ∧ ex lf F_impl_foldTerm_uint32_W0 (stF n k es N g st) = some (.exit 0,stF n n es N' g' (((c,a) :: rest).foldl (stepG mkW) st)) := by
    rintro ⟨N1,g1,hN1,h1⟩ h2 h3
    obtain ⟨N',g',q1,q2⟩ := l_fold m n hm hb es rest (k + 1) p1 q (stepG mkW st (c,a)) N1 g1 hN1 s4 (by simpa using s5) s6 h2 hr (by omega)
    refine ⟨N',g',q1,?_⟩
    rw [w_impl_foldTerm_uint32_0,h1]
    exact q2
   unfold mkS at hm'
   simp only at hm'
   split at hm'
   ·rename_i hc
    subst hc
    split at hm'
    ·rename_i ha
     injection hm' with hm'
     exact go (l_fold0 n k es N g st hN (by omega) a ha.1 (by omega) s1 s2 s3) (by rw [stepG_0]; simp; omega) (by rw [stepG_0]; simp)
    ·cases hm'
   ·split at hm'
    ·rename_i _ hc
     subst hc
     split at hm'
     ·rename_i ha
      injection hm' with hm'
      obtain ⟨r,x,rfl⟩ := last1 (l := st) (by omega)
      have hl' := hl
      simp only [List.length_append,List.length_singleton] at hl hp
      exact go (l_fold1 n k es N g r x hN (by omega) a s1 s2 s3) (by rw [stepG_1]; simp; omega) (by rw [stepG_1]; simp)
     ·cases hm'
    ·split at hm'
     ·rename_i _ _ hc
      split at hm'
      ·rename_i ha
       injection hm' with hm'
       obtain ⟨r,x,y,rfl⟩ := last2 (l := st) (by omega)
       simp only [List.length_append,List.length_cons,List.length_nil] at hl hp
       exact go (l_fold2 n k es N g r x y hN (by omega) c a hc s1 s2 s3) (by rw [stepG_2 _ _ _ _ _ _ hc]; simp; omega) (by rw [stepG_2 _ _ _ _ _ _ hc]; simp)
      ·cases hm'
     ·cases hm'
theorem c_impl_trueStates {m : Int} {ts : List T} (h : tmOk m ts = true) : call lf n_impl_trueStates [.sl 0 (ts.map e2)] = some (.w (tsW ts),[]) := by
 obtain ⟨h1,h2,h3⟩ := tmOk_iff.1 h
 obtain ⟨x,_,_,hf,_⟩ := tv_tree h
 obtain ⟨N',g',hN',L⟩ := l_fold m ts.length h1.2 (by omega) (ts.map e2) ts 0 0 1 [] 0 [] rfl (Int.le_refl _) (by simp) (by simp) rfl h3 (by simp; omega)
 rw [hf] at L hN'
 have C : call lf n_impl_foldTerm_uint32 [.sl 0 (ts.map e2),.fn n_impl_statesOfPart []] = some (.w (tsW ts),[]) := by
  rw [call_k lf n_impl_foldTerm_uint32 _ (F := F_impl_foldTerm_uint32) rfl rfl]
  unfold stF at L
  simp at L hN'
  have hL : g'.length + 1 = N' := by omega
  have n1 : 1 ≤ N' := by omega
  simp [F_impl_foldTerm_uint32,L,hL,n1]
 rw [call_k lf n_impl_trueStates _ (F := F_impl_trueStates) rfl rfl]
 simp [F_impl_trueStates,C]
end
section
attribute [-simp] DV.cells
attribute [local simp] cells_st cells_sl cells_i cells_y cells_b cells_s cells_w
theorem at_mid {pre post : List T} {t : T} {k : Int} (hk : k = pre.length) : atI ((pre ++ t :: post).map e2) k = some (e2 t) := by
 subst hk
 simp [atI]
def stL (es : List DV) (need at_ : Int) : LS := ⟨[(0,.sl 0 es),(5,.i need),(6,.i at_)],[]⟩
set_option maxHeartbeats 4000000 in
theorem l_starts (es : List DV) (hl : es.length ≤ 100000) : ∀ (x : Tm) (pre post : List T) (need : Int),es = (pre ++ flt x ++ post).map e2 → 0 ≤ need → need + (flt x).length ≤ 1000000 →
  ex lf F_spec_l2Starts_W0 (stL es (need + 1) ((pre.length : Int) + (flt x).length - 1)) = ex lf F_spec_l2Starts_W0 (stL es need ((pre.length : Int) - 1)) := by
 intro x
 induction x with
 | tst a =>
  intro pre post need he hn hn2
  have hat := at_mid (pre := pre) (t := (0,(a : Int))) (post := post) (k := (pre.length : Int)) rfl
  have he' : es = (pre ++ (0,(a : Int)) :: post).map e2 := by rw [he]; simp [flt]
  rw [← he'] at hat
  simp only [e2] at hat
  have hn2 : need ≤ 1000000 := by omega
  have w1 : wr need = need := wr_id (by omega) (by omega)
  have hle : pre.length ≤ 100000 := by rw [he'] at hl; simp at hl; omega
  have w2 : wr ((pre.length : Int) - 1) = (pre.length : Int) - 1 := wr_id (by omega) (by omega)
  have c1 : 0 < need + 1 := by omega
  have e1 : (pre.length : Int) + ((flt (.tst a)).length : Nat) - 1 = pre.length := by simp [flt]
  rw [e1,w_spec_l2Starts_0]
  unfold stL
  simp [F_spec_l2Starts_L0,c1,hat,w1,w2]
 | neg x ih =>
  intro pre post need he hn hn2
  have he' : es = ((pre ++ flt x) ++ (1,0) :: post).map e2 := by rw [he]; simp [flt]
  have hat := at_mid (pre := pre ++ flt x) (t := (1,0)) (post := post) (k := (pre.length : Int) + (flt x).length) (by simp)
  rw [← he'] at hat
  simp only [e2] at hat
  have ih := ih pre ((1,0) :: post) need (by rw [he]; simp [flt]) hn (by simp [flt] at hn2; omega)
  have hle : pre.length + (flt x).length ≤ 100000 := by rw [he'] at hl; simp at hl; omega
  have w2 : wr ((pre.length : Int) + (flt x).length - 1) = (pre.length : Int) + (flt x).length - 1 := wr_id (by omega) (by omega)
  have c1 : 0 < need + 1 := by omega
  have e1 : (pre.length : Int) + ((flt (.neg x)).length : Nat) - 1 = pre.length + (flt x).length := by simp [flt]; omega
  rw [← ih,e1]
  conv => lhs; rw [w_spec_l2Starts_0]
  unfold stL
  simp [F_spec_l2Starts_L0,c1,hat,w2]
 | and x y ihx ihy =>
  intro pre post need he hn hn2
  have he' : es = ((pre ++ flt x ++ flt y) ++ (2,0) :: post).map e2 := by rw [he]; simp [flt]
  have hat := at_mid (pre := pre ++ flt x ++ flt y) (t := (2,0)) (post := post) (k := (pre.length : Int) + (flt x).length + (flt y).length) (by simp; omega)
  rw [← he'] at hat
  simp only [e2] at hat
  have hle : pre.length + (flt x).length + (flt y).length ≤ 100000 := by rw [he'] at hl; simp at hl; omega
  have px := flt_pos x
  have hn3 : need + (flt x).length + (flt y).length + 1 ≤ 1000000 := by simp [flt] at hn2; omega
  have i1 := ihx pre (flt y ++ (2,0) :: post) need (by rw [he]; simp [flt]) hn (by omega)
  have w1 : wr (need + 1 + 1) = need + 1 + 1 := wr_id (by omega) (by omega)
  have w2 : wr ((pre.length : Int) + (flt x).length + (flt y).length - 1) = (pre.length : Int) + (flt x).length + (flt y).length - 1 := wr_id (by omega) (by omega)
  have c1 : 0 < need + 1 := by omega
  have e1 : (pre.length : Int) + ((flt (.and x y)).length : Nat) - 1 = pre.length + (flt x).length + (flt y).length := by simp [flt]; omega
  have i2 := ihy (pre ++ flt x) ((2,0) :: post) (need + 1) (by rw [he]; simp [flt]) (by omega) (by omega)
  have e3 : (((pre ++ flt x).length : Nat) : Int) = pre.length + (flt x).length := by simp
  rw [e3] at i2
  rw [← i1,← i2,e1]
  conv => lhs; rw [w_spec_l2Starts_0]
  unfold stL
  simp [F_spec_l2Starts_L0,c1,hat,w1,w2]
 | or x y ihx ihy =>
  intro pre post need he hn hn2
  have he' : es = ((pre ++ flt x ++ flt y) ++ (3,0) :: post).map e2 := by rw [he]; simp [flt]
  have hat := at_mid (pre := pre ++ flt x ++ flt y) (t := (3,0)) (post := post) (k := (pre.length : Int) + (flt x).length + (flt y).length) (by simp; omega)
  rw [← he'] at hat
  simp only [e2] at hat
  have hle : pre.length + (flt x).length + (flt y).length ≤ 100000 := by rw [he'] at hl; simp at hl; omega
  have px := flt_pos x
  have hn3 : need + (flt x).length + (flt y).length + 1 ≤ 1000000 := by simp [flt] at hn2; omega
  have i1 := ihx pre (flt y ++ (3,0) :: post) need (by rw [he]; simp [flt]) hn (by omega)
  have w1 : wr (need + 1 + 1) = need + 1 + 1 := wr_id (by omega) (by omega)
  have w2 : wr ((pre.length : Int) + (flt x).length + (flt y).length - 1) = (pre.length : Int) + (flt x).length + (flt y).length - 1 := wr_id (by omega) (by omega)
  have c1 : 0 < need + 1 := by omega
  have e1 : (pre.length : Int) + ((flt (.or x y)).length : Nat) - 1 = pre.length + (flt x).length + (flt y).length := by simp [flt]; omega
  have i2 := ihy (pre ++ flt x) ((3,0) :: post) (need + 1) (by rw [he]; simp [flt]) (by omega) (by omega)
  have e3 : (((pre ++ flt x).length : Nat) : Int) = pre.length + (flt x).length := by simp
  rw [e3] at i2
  rw [← i1,← i2,e1]
  conv => lhs; rw [w_spec_l2Starts_0]
  unfold stL
  simp [F_spec_l2Starts_L0,c1,hat,w1,w2]
theorem c_spec_l2Starts (x : Tm) (pre post : List T) (hl : pre.length + (flt x).length + post.length ≤ 100000) :
  call lf n_spec_l2Starts [.sl 0 ((pre ++ flt x ++ post).map e2),.i ((pre.length : Int) + (flt x).length - 1)] = some (.i pre.length,[]) := by
 have L := l_starts ((pre ++ flt x ++ post).map e2) (by simp; omega) x pre post 0 rfl (by omega) (by omega)
 have L0 : ex lf F_spec_l2Starts_W0 (stL ((pre ++ flt x ++ post).map e2) 0 ((pre.length : Int) - 1)) = some (.exit 0,stL ((pre ++ flt x ++ post).map e2) 0 ((pre.length : Int) - 1)) := by
  rw [w_spec_l2Starts_0]
  unfold stL
  simp [F_spec_l2Starts_L0]
 rw [L0] at L
 have w : wr ((pre.length : Int)) = pre.length := wr_id (by omega) (by omega)
 rw [call_k lf n_spec_l2Starts _ (F := F_spec_l2Starts) rfl rfl]
 unfold stL at L
 simp at L
 simp [F_spec_l2Starts,L,w]
theorem cut_hi (ob : OB) (sz : Nat) {es : List DV} (wid : ∀ e ∈ es,e.cells.length = sz) {h : Nat} (hh : h ≤ es.length) : sliceD ob (.sl 0 es) sz none (some (h : Int)) = some (.sl 0 (es.take h)) := by
 unfold sliceD
 simp only [Option.getD_some,Option.getD_none]
 rw [if_pos ⟨Int.le_refl _,by omega,by omega,wid⟩]
 simp [cutP]
theorem cut_lohi (ob : OB) (sz : Nat) {es : List DV} (wid : ∀ e ∈ es,e.cells.length = sz) {l h : Nat} (hl : l ≤ h) (hh : h ≤ es.length) : sliceD ob (.sl 0 es) sz (some (l : Int)) (some (h : Int)) = some (.sl 0 ((es.take h).drop l)) := by
 unfold sliceD
 simp only [Option.getD_some]
 rw [if_pos ⟨by omega,by omega,by omega,wid⟩]
 simp [cutP]
attribute [-simp] sliceD
def bI (b : Bool) : Int := if b then 1 else 0
set_option maxHeartbeats 4000000 in
theorem c_spec_l3Value {m : Int} (hm : m ≤ 5) (s : Nat) (hs : s < 1000000) : ∀ {x : Tm},tb m x → (flt x).length ≤ 1000 → call lf n_spec_l3Value [.sl 0 ((flt x).map e2),.i s] = some (.i (bI (ev s x)),[]) := by
 intro x
 induction x with
 | tst a =>
  intro hb hl
  rw [call_k lf n_spec_l3Value _ (F := F_spec_l3Value) rfl rfl]
  have ha : (a : Int) < m := hb
  have na : ¬ (a : Int) < 0 := by omega
  have w0 : wr (0 : Int) = 0 := wr_id (by omega) (by omega)
  have h1 : shrI s a = (s : Int) / 2 ^ a := by rw [shr1 (by omega) (by omega)]; simp
  have h2 : ((s : Int) / 2 ^ a).tmod 2 = bI (s.testBit a) := by
   rw [tmod2 (Int.ediv_nonneg (by omega) (Int.le_of_lt (Int.pow_pos (by omega))))]
   unfold bI
   rw [Nat.testBit_eq_decide_div_mod_eq]
   have : (s : Int) / 2 ^ a % 2 = ((s / 2 ^ a % 2 : Nat) : Int) := by simp
   rw [this]
   by_cases h : s / 2 ^ a % 2 = 1
   ·simp [h]
   ·have : s / 2 ^ a % 2 = 0 := by omega
    simp [this]
  simp [F_spec_l3Value,flt,e2,atI,w0,na,h1,h2,ev]
 | neg x ih =>
  intro hb hl
  have ih := ih hb (by simp [flt] at hl; omega)
  rw [call_k lf n_spec_l3Value _ (F := F_spec_l3Value) rfl rfl]
  have hat := at_mid (pre := flt x) (t := (1,0)) (post := []) (k := ((flt x).length : Int)) rfl
  simp [e2] at hat
  simp [flt] at hl
  have w1 : wr ((flt x).length : Int) = (flt x).length := wr_id (by omega) (by omega)
  have S1 := fun ob => cut_hi ob 2 (e2_wid (flt x ++ [(1,0)])) (h := (flt x).length) (by simp)
  have t1 : List.take (flt x).length ((flt x ++ [(1,0)]).map e2) = (flt x).map e2 := by simp
  rw [t1] at S1
  simp [e2] at S1
  have w2 : wr (1 - bI (ev s x)) = bI (!ev s x) := by cases ev s x <;> rfl
  simp [F_spec_l3Value,flt,e2,w1,hat,ih,w2,ev,S1]
 | and x y ihx ihy =>
  intro hb hl
  simp [flt] at hl
  have ix := ihx hb.1 (by omega)
  have iy := ihy hb.2 (by omega)
  rw [call_k lf n_spec_l3Value _ (F := F_spec_l3Value) rfl rfl]
  have hat := at_mid (pre := flt x ++ flt y) (t := (2,0)) (post := []) (k := ((flt x).length : Int) + (flt y).length) (by simp)
  simp [e2] at hat
  have w1 : wr (((flt x).length : Int) + ((flt y).length + 1) - 1) = (flt x).length + (flt y).length := by rw [wr_id (by omega) (by omega)]; omega
  have w2 : wr ((flt x).length + (flt y).length - 1 : Int) = (flt x).length + (flt y).length - 1 := wr_id (by have := flt_pos x; omega) (by omega)
  have S := c_spec_l2Starts y (flt x) [(2,0)] (by simp; omega)
  simp [e2] at S
  have S1 := fun ob => cut_hi ob 2 (e2_wid (flt x ++ flt y ++ [(2,0)])) (h := (flt x).length) (by simp)
  have t1 : List.take (flt x).length ((flt x ++ flt y ++ [(2,0)]).map e2) = (flt x).map e2 := by simp
  rw [t1] at S1
  simp [e2] at S1
  have S2 := fun ob => cut_lohi ob 2 (e2_wid (flt x ++ flt y ++ [(2,0)])) (l := (flt x).length) (h := (flt x).length + (flt y).length) (by omega) (by simp)
  have t2 : List.drop (flt x).length (List.take ((flt x).length + (flt y).length) ((flt x ++ flt y ++ [(2,0)]).map e2)) = (flt y).map e2 := by
   rw [← List.map_take,← List.map_drop]
   congr 1
   have : List.take ((flt x).length + (flt y).length) (flt x ++ flt y ++ [(2,0)]) = flt x ++ flt y := by
    rw [← List.length_append]; exact List.take_left
   rw [this]; exact List.drop_left
  rw [t2] at S2
  simp [e2] at S2
  have w3 : min (bI (ev s x)) (bI (ev s y)) = bI (ev s x && ev s y) := by cases ev s x <;> cases ev s y <;> rfl
  simp [F_spec_l3Value,flt,e2,w1,w2,hat,ix,iy,S,S1,S2,w3,ev]
 | or x y ihx ihy =>
  intro hb hl
  simp [flt] at hl
  have ix := ihx hb.1 (by omega)
  have iy := ihy hb.2 (by omega)
  rw [call_k lf n_spec_l3Value _ (F := F_spec_l3Value) rfl rfl]
  have hat := at_mid (pre := flt x ++ flt y) (t := (3,0)) (post := []) (k := ((flt x).length : Int) + (flt y).length) (by simp)
  simp [e2] at hat
  have w1 : wr (((flt x).length : Int) + ((flt y).length + 1) - 1) = (flt x).length + (flt y).length := by rw [wr_id (by omega) (by omega)]; omega
  have w2 : wr ((flt x).length + (flt y).length - 1 : Int) = (flt x).length + (flt y).length - 1 := wr_id (by have := flt_pos x; omega) (by omega)
  have S := c_spec_l2Starts y (flt x) [(3,0)] (by simp; omega)
  simp [e2] at S
  have S1 := fun ob => cut_hi ob 2 (e2_wid (flt x ++ flt y ++ [(3,0)])) (h := (flt x).length) (by simp)
  have t1 : List.take (flt x).length ((flt x ++ flt y ++ [(3,0)]).map e2) = (flt x).map e2 := by simp
  rw [t1] at S1
  simp [e2] at S1
  have S2 := fun ob => cut_lohi ob 2 (e2_wid (flt x ++ flt y ++ [(3,0)])) (l := (flt x).length) (h := (flt x).length + (flt y).length) (by omega) (by simp)
  have t2 : List.drop (flt x).length (List.take ((flt x).length + (flt y).length) ((flt x ++ flt y ++ [(3,0)]).map e2)) = (flt y).map e2 := by
   rw [← List.map_take,← List.map_drop]
   congr 1
   have : List.take ((flt x).length + (flt y).length) (flt x ++ flt y ++ [(3,0)]) = flt x ++ flt y := by
    rw [← List.length_append]; exact List.take_left
   rw [this]; exact List.drop_left
  rw [t2] at S2
  simp [e2] at S2
  have w3 : max (bI (ev s x)) (bI (ev s y)) = bI (ev s x || ev s y) := by cases ev s x <;> cases ev s y <;> rfl
  simp [F_spec_l3Value,flt,e2,w1,w2,hat,ix,iy,S,S1,S2,w3,ev]
end
section
attribute [-simp] DV.cells sliceD
attribute [local simp] cells_st cells_sl cells_i cells_y cells_b cells_s cells_w
def tabN (f : Nat → Bool) : Nat → Nat
 | 0 => 0
 | k + 1 => tabN f k ||| (if f k then 2 ^ k else 0)
theorem tabN_lt (f : Nat → Bool) : ∀ k,tabN f k < 2 ^ k
 | 0 => by simp [tabN]
 | k + 1 => by
  simp only [tabN]
  have h := tabN_lt f k
  refine Nat.or_lt_two_pow ?_ ?_
  ·rw [Nat.pow_succ]; omega
  ·split
   ·rw [Nat.pow_succ]; have := Nat.pow_pos (n := k) (show 0 < 2 by omega); omega
   ·exact Nat.pow_pos (by omega)
theorem tabN_bit (f : Nat → Bool) (s : Nat) : ∀ k,(tabN f k).testBit s = (decide (s < k) && f s)
 | 0 => by simp [tabN]
 | k + 1 => by
  simp only [tabN,Nat.testBit_or,tabN_bit f s k]
  by_cases h : s = k
  ·subst h
   cases f s <;> simp
  ·have e : (if f k then 2 ^ k else 0).testBit s = false := by
    split
    ·rw [Nat.testBit_two_pow]; simp; omega
    ·simp
   rw [e]
   by_cases h1 : s < k
   ·simp [h1,show s < k + 1 by omega]
   ·simp [h1,show ¬ s < k + 1 by omega]
theorem orI_nat {a b : Nat} (ha : a < 2 ^ 62) (hb : b < 2 ^ 62) : orI (a : Int) (b : Int) = ((a ||| b : Nat) : Int) := by
 have hab : a ||| b < 2 ^ 62 := Nat.or_lt_two_pow ha hb
 unfold orI
 have e : (BitVec.ofInt 64 (a : Int) ||| BitVec.ofInt 64 (b : Int)).toNat = a ||| b := by
  rw [BitVec.toNat_or,BitVec.ofInt_natCast,BitVec.ofInt_natCast,BitVec.toNat_ofNat,BitVec.toNat_ofNat,Nat.mod_eq_of_lt (by omega),Nat.mod_eq_of_lt (by omega)]
 rw [e]
 exact wr_id (by omega) (by omega)
theorem shl_bI (b : Bool) {s : Nat} (hs : s ≤ 40) : shlI (bI b) s = ((if b then 2 ^ s else 0 : Nat) : Int) := by
 cases b with
 | true =>
  have := shl1 (k := (s : Int)) (by omega) (by omega)
  simp [bI,this]
 | false =>
  unfold shlI bI
  simp
  exact wr_id (by omega) (by omega)
theorem bit_bI {a s : Nat} (hs : s ≤ 60) : (shrI (a : Int) (s : Int)).tmod 2 = bI (a.testBit s) := by
 rw [shr1 (by omega) (by omega),tmod2 (Int.ediv_nonneg (by omega) (Int.le_of_lt (Int.pow_pos (by omega))))]
 unfold bI
 rw [Nat.testBit_eq_decide_div_mod_eq,Int.toNat_natCast]
 have : (a : Int) / 2 ^ s % 2 = ((a / 2 ^ s % 2 : Nat) : Int) := by simp
 rw [this]
 by_cases h : a / 2 ^ s % 2 = 1
 ·simp [h]
 ·have : a / 2 ^ s % 2 = 0 := by omega
  simp [this]
theorem pow5 {m : Int} (h1 : 1 ≤ m) (h5 : m ≤ 5) : 2 ≤ 2 ^ m.toNat ∧ 2 ^ m.toNat ≤ 32 ∧ ((2 ^ m.toNat : Nat) : Int) = 2 ^ m.toNat := by
 have c : m = 1 ∨ m = 2 ∨ m = 3 ∨ m = 4 ∨ m = 5 := by omega
 rcases c with rfl | rfl | rfl | rfl | rfl <;> decide
/-- a term's table -/
def tabT (m : Int) (ts : List T) : Nat := tabN (tv ts) (2 ^ m.toNat)
theorem c_spec_l3Table {m : Int} {ts : List T} (h : tmOk m ts = true) : call lf n_spec_l3Table [.i m,.sl 0 (ts.map e2)] = some (.i (tabT m ts),[]) := by
 obtain ⟨h1,h2,_⟩ := tmOk_iff.1 h
 obtain ⟨x,hb,hf,_,htv⟩ := tv_tree h
 obtain ⟨p1,p2,p3⟩ := pow5 h1.1 h1.2
 have s1 := shl1 (k := m) (by omega) (by omega)
 have n0 : ¬ m < 0 := by omega
 have L := loop_count (lf := lf) (L := F_spec_l3Table_L0) (2 ^ m.toNat) (fun i => ⟨[(0,.i m),(1,.sl 0 (ts.map e2)),(5,.i (tabN (tv ts) i)),(6,.i i)],[]⟩) (x := .exit 0) (R := ⟨[(0,.i m),(1,.sl 0 (ts.map e2)),(5,.i (tabN (tv ts) (2 ^ m.toNat))),(6,.i (2 ^ m.toNat))],[]⟩) (fun i hi => by
  have C := c_spec_l3Value h1.2 i (by omega) hb (by rw [hf]; omega)
  rw [hf,← htv i (by omega)] at C
  have o := orI_nat (a := tabN (tv ts) i) (b := if tv ts i then 2 ^ i else 0) (by have := tabN_lt (tv ts) i; have := Nat.pow_le_pow_right (n := 2) (by omega) (show i ≤ 62 by omega); omega) (by
   split
   ·exact Nat.pow_lt_pow_right (by omega) (by omega)
   ·omega)
  have sb := shl_bI (tv ts i) (s := i) (by omega)
  have w1 : wr ((i : Int) + 1) = i + 1 := wr_id (by omega) (by omega)
  have lt : (i : Int) < 2 ^ m.toNat := by omega
  have tn : tabN (tv ts) (i + 1) = tabN (tv ts) i ||| (if tv ts i then 2 ^ i else 0) := rfl
  have ni : ¬ (i : Int) < 0 := by omega
  simp only [tn]
  generalize (if tv ts i then 2 ^ i else 0) = b at *
  simp [F_spec_l3Table_L0,s1,n0,ni,lt,C,sb,o,w1]) (by
  have nlt : ¬ ((2 ^ m.toNat : Nat) : Int) < 2 ^ m.toNat := by omega
  simp [F_spec_l3Table_L0,s1,n0,p3]) (by simp)
 rw [call_k lf n_spec_l3Table _ (F := F_spec_l3Table) rfl rfl]
 have L' : ex lf F_spec_l3Table_W0 ⟨[(0,.i m),(1,.sl 0 (ts.map e2)),(5,.i 0),(6,.i 0)],[]⟩ = some (.exit 0,⟨[(0,.i m),(1,.sl 0 (ts.map e2)),(5,.i (tabN (tv ts) (2 ^ m.toNat))),(6,.i (2 ^ m.toNat))],[]⟩) := L
 simp [F_spec_l3Table,L',tabT]
end
section
attribute [-simp] DV.cells sliceD
attribute [local simp] cells_st cells_sl cells_i cells_y cells_b cells_s cells_w
/-- 1 if f holds wherever g does below N,0 if nowhere,else -1 -/
def fo (f g : Nat → Bool) (N : Nat) : Int := if allTo (fun s => !g s || f s) N then 1 else if allTo (fun s => !g s || !f s) N then 0 else -1
theorem fo_1 {f g : Nat → Bool} {N : Nat} : fo f g N = 1 ↔ ∀ s,s < N → g s = true → f s = true := by
 unfold fo
 constructor
 ·intro h
  split at h
  ·rename_i ha
   intro s hs hg
   have := allTo_iff.1 ha s hs
   simpa [hg] using this
  ·split at h <;> cases h
 ·intro h
  rw [if_pos (allTo_iff.2 fun s hs => by
   cases hg : g s with
   | false => rfl
   | true => simp [h s hs hg])]
theorem fo_0 {f g : Nat → Bool} {N : Nat} (hne : ∃ s,s < N ∧ g s = true) : fo f g N = 0 ↔ ∀ s,s < N → g s = true → f s = false := by
 obtain ⟨s0,h0,g0⟩ := hne
 unfold fo
 constructor
 ·intro h
  split at h
  ·cases h
  ·split at h
   ·rename_i ha
    intro s hs hg
    have := allTo_iff.1 ha s hs
    simpa [hg] using this
   ·cases h
 ·intro h
  rw [if_neg,if_pos (allTo_iff.2 fun s hs => by
   cases hg : g s with
   | false => rfl
   | true => simp [h s hs hg])]
  intro ha
  have := allTo_iff.1 ha s0 h0
  simp [g0,h s0 h0 g0] at this
theorem fo_or (f g : Nat → Bool) (N : Nat) : fo f g N = 1 ∨ fo f g N = 0 ∨ fo f g N = -1 := by
 unfold fo
 split
 ·simp
 ·split <;> simp
theorem fo_b {f g : Nat → Bool} {N : Nat} (hne : ∃ s,s < N ∧ g s = true) (b : Bool) : fo f g N = bI b ↔ ∀ s,s < N → g s = true → f s = b := by
 cases b with
 | true => exact fo_1
 | false => exact fo_0 hne
theorem fo_n {f g : Nat → Bool} {N : Nat} (hne : ∃ s,s < N ∧ g s = true) : fo f g N = -1 ↔ (∃ s,s < N ∧ g s = true ∧ f s = true) ∧ ∃ s,s < N ∧ g s = true ∧ f s = false := by
 obtain ⟨s0,h0,g0⟩ := id hne
 constructor
 ·intro h
  constructor
  ·apply Classical.byContradiction
   intro hn
   have : fo f g N = 0 := (fo_0 hne).2 fun s hs hg => by
    cases hf : f s with
    | false => rfl
    | true => exact absurd ⟨s,hs,hg,hf⟩ hn
   omega
  ·apply Classical.byContradiction
   intro hn
   have : fo f g N = 1 := fo_1.2 fun s hs hg => by
    cases hf : f s with
    | true => rfl
    | false => exact absurd ⟨s,hs,hg,hf⟩ hn
   omega
 ·rintro ⟨⟨s1,h1,g1,f1⟩,⟨s2,h2,g2,f2⟩⟩
  rcases fo_or f g N with h | h | h
  ·have := fo_1.1 h s2 h2 g2; rw [f2] at this; cases this
  ·have := (fo_0 hne).1 h s1 h1 g1; rw [f1] at this; cases this
  ·exact h
theorem fo_congr {f g f' g' : Nat → Bool} {N : Nat} (h : ∀ s,s < N → g s = g' s ∧ (g s = true → f s = f' s)) : fo f g N = fo f' g' N := by
 have e1 : allTo (fun s => !g s || f s) N = allTo (fun s => !g' s || f' s) N := by
  rw [Bool.eq_iff_iff,allTo_iff,allTo_iff]
  refine forall_congr' fun s => ⟨fun k hs => ?_,fun k hs => ?_⟩ <;> (obtain ⟨h1,h2⟩ := h s hs; have := k hs; cases hg : g s <;> simp_all)
 have e2 : allTo (fun s => !g s || !f s) N = allTo (fun s => !g' s || !f' s) N := by
  rw [Bool.eq_iff_iff,allTo_iff,allTo_iff]
  refine forall_congr' fun s => ⟨fun k hs => ?_,fun k hs => ?_⟩ <;> (obtain ⟨h1,h2⟩ := h s hs; have := k hs; cases hg : g s <;> simp_all)
 unfold fo
 rw [e1,e2]
/-- What the states say that agree. -/
def agB (ks : List Int) (s : Nat) : Bool := ag ks (s : Int)
theorem agB_cons (k : Int) (r : List Int) (s : Nat) : agB (k :: r) s = ((k == -1 || k == bI (s.testBit 0)) && agB r (s / 2)) := by
 unfold agB
 simp only [ag]
 have e1 : (s : Int) % 2 = bI (s.testBit 0) := by
  unfold bI
  rw [Nat.testBit_zero]
  by_cases h : s % 2 = 1
  ·simp [h]; omega
  ·simp [h]; omega
 have e2 : (s : Int) / 2 = ((s / 2 : Nat) : Int) := by omega
 rw [e1,e2]
theorem agB_some : ∀ {ks : List Int},ks.all kOk = true → ∃ s,s < 2 ^ ks.length ∧ agB ks s = true
 | [],_ => ⟨0,by simp,rfl⟩
 | k :: r,h => by
  simp only [List.all_cons,Bool.and_eq_true] at h
  obtain ⟨s,h1,h2⟩ := agB_some h.2
  have hk : -1 ≤ k ∧ k ≤ 1 := by simpa [kOk] using h.1
  have c : k = -1 ∨ k = 0 ∨ k = 1 := by omega
  have key : ∀ b : Bool,k = -1 ∨ k = bI b → ∃ s,s < 2 ^ (k :: r).length ∧ agB (k :: r) s = true := by
   intro b hb
   refine ⟨2 * s + (if b then 1 else 0),?_,?_⟩
   ·rw [List.length_cons,Nat.pow_succ]; cases b <;> simp <;> omega
   ·rw [agB_cons]
    have e1 : (2 * s + (if b then 1 else 0)) / 2 = s := by cases b <;> simp <;> omega
    have e2 : (2 * s + (if b then 1 else 0)).testBit 0 = b := by rw [Nat.testBit_zero]; cases b <;> simp <;> omega
    rw [e1,e2,h2]
    rcases hb with rfl | rfl <;> simp
  rcases c with rfl | rfl | rfl
  ·exact key true (.inl rfl)
  ·exact key false (.inr rfl)
  ·exact key true (.inr rfl)
def stFo (m tab : Int) (ks : List Int) (out : Int) (first : Bool) (s : Int) : LS := ⟨[(0,.i m),(1,.i tab),(2,.sl 0 (ks.map .i)),(7,.i out),(8,.b first),(9,.i s)],[]⟩
def invF (f g : Nat → Bool) (i : Nat) (out : Int) (first : Bool) : Prop :=
 (first = true ∧ out = -1 ∧ ∀ s,s < i → g s = false) ∨ (first = false ∧ ∃ b,out = bI b ∧ (∃ s,s < i ∧ g s = true) ∧ ∀ s,s < i → g s = true → f s = b)
set_option maxHeartbeats 4000000 in
theorem l_forced {m : Int} (h1 : 1 ≤ m) (h5 : m ≤ 5) (ks : List Int) (hk : (ks.length : Int) ≤ 40) (tab : Nat) (ht : ∀ s,s < 2 ^ m.toNat → tab.testBit s = tab.testBit s) (j : Nat) : ∀ (i : Nat) (out : Int) (first : Bool),i + j = 2 ^ m.toNat → invF tab.testBit (agB ks) i out first →
  (∃ out' first',invF tab.testBit (agB ks) (2 ^ m.toNat) out' first' ∧ ex lf F_spec_l3Forced_W0 (stFo m tab ks out first i) = some (.exit 0,stFo m tab ks out' first' (2 ^ m.toNat : Nat))) ∨
  (((∃ s,s < 2 ^ m.toNat ∧ agB ks s = true ∧ tab.testBit s = true) ∧ ∃ s,s < 2 ^ m.toNat ∧ agB ks s = true ∧ tab.testBit s = false) ∧ ex lf F_spec_l3Forced_W0 (stFo m tab ks out first i) = some (.ret,⟨[(6,.i (-1))],[]⟩)) := by
 obtain ⟨p1,p2,p3⟩ := pow5 h1 h5
 have s1 := shl1 (k := m) (by omega) (by omega)
 have n0 : ¬ m < 0 := by omega
 induction j with
 | zero =>
  intro i out first hi hinv
  have : i = 2 ^ m.toNat := by omega
  subst this
  refine .inl ⟨out,first,hinv,?_⟩
  rw [w_spec_l3Forced_0]
  unfold stFo
  simp [F_spec_l3Forced_L0,s1,n0,p3]
 | succ j ih =>
  intro i out first hi hinv
  have lt : (i : Int) < 2 ^ m.toNat := by omega
  have ni : ¬ (i : Int) < 0 := by omega
  have C := c_spec_l1Agrees ks i hk (by omega)
  have w1 : wr ((i : Int) + 1) = ((i + 1 : Nat) : Int) := by rw [wr_id (by omega) (by omega)]; omega
  have tb := bit_bI (a := tab) (s := i) (by omega)
  have z2 : ¬ (2 : Int) = 0 := by omega
  have go : ∀ out1 first1,ex lf F_spec_l3Forced_L0 (stFo m tab ks out first i) = some (.normal,stFo m tab ks out1 first1 (i + 1 : Nat)) → ex lf F_spec_l3Forced_W0 (stFo m tab ks out first i) = ex lf F_spec_l3Forced_W0 (stFo m tab ks out1 first1 (i + 1 : Nat)) := by
   intro out1 first1 h
   rw [w_spec_l3Forced_0,h]
  have hstep : ∀ s,s < i + 1 → s < i ∨ s = i := fun s hs => by omega
  cases hg : agB ks i with
  | false =>
   have hg' : ag ks (i : Int) = false := hg
   rw [hg'] at C
   have e := go out first (by
    unfold stFo
    simp [F_spec_l3Forced_L0,s1,n0,lt,C,w1])
   rw [e]
   refine ih (i + 1) out first (by omega) ?_
   rcases hinv with ⟨a1,a2,a3⟩ | ⟨a1,b,a2,⟨s0,a3,a4⟩,a5⟩
   ·exact .inl ⟨a1,a2,fun s hs => by rcases hstep s hs with h | rfl; exact a3 s h; exact hg⟩
   ·exact .inr ⟨a1,b,a2,⟨s0,by omega,a4⟩,fun s hs hgs => by rcases hstep s hs with h | rfl; exact a5 s h hgs; rw [hg] at hgs; cases hgs⟩
  | true =>
   have hg' : ag ks (i : Int) = true := hg
   rw [hg'] at C
   rcases hinv with ⟨rfl,rfl,a3⟩ | ⟨rfl,b,rfl,⟨s0,a3,a4⟩,a5⟩
   ·have e := go (bI (tab.testBit i)) false (by
     unfold stFo
     simp [F_spec_l3Forced_L0,s1,n0,lt,ni,C,w1,tb])
    rw [e]
    refine ih (i + 1) _ false (by omega) (.inr ⟨rfl,_,rfl,⟨i,by omega,hg⟩,fun s hs hgs => ?_⟩)
    rcases hstep s hs with h | rfl
    ·rw [a3 s h] at hgs; cases hgs
    ·rfl
   ·by_cases hb : tab.testBit i = b
    ·have tb' : (shrI (tab : Int) (i : Int)).tmod 2 = bI b := by rw [tb,hb]
     have e := go (bI b) false (by
      unfold stFo
      simp [F_spec_l3Forced_L0,s1,n0,lt,ni,C,w1,tb'])
     rw [e]
     refine ih (i + 1) _ false (by omega) (.inr ⟨rfl,b,rfl,⟨i,by omega,hg⟩,fun s hs hgs => ?_⟩)
     rcases hstep s hs with h | rfl
     ·exact a5 s h hgs
     ·exact hb
    ·refine .inr ⟨?_,?_⟩
     ·have q0 := a5 s0 a3 a4
      cases b with
      | true => exact ⟨⟨s0,by omega,a4,q0⟩,⟨i,by omega,hg,by simpa using hb⟩⟩
      | false => exact ⟨⟨i,by omega,hg,by simpa using hb⟩,⟨s0,by omega,a4,q0⟩⟩
     ·have ne : (bI (tab.testBit i) != bI b) = true := by
       cases h : tab.testBit i <;> cases b <;> simp_all [bI]
      rw [w_spec_l3Forced_0]
      unfold stFo
      simp [F_spec_l3Forced_L0,s1,n0,lt,ni,C,w1,tb,ne]
theorem c_spec_l3Forced {m : Int} (h1 : 1 ≤ m) (h5 : m ≤ 5) (ks : List Int) (hk : (ks.length : Int) ≤ 40) (tab : Nat) (hne : ∃ s,s < 2 ^ m.toNat ∧ agB ks s = true) :
  call lf n_spec_l3Forced [.i m,.i tab,.sl 0 (ks.map .i)] = some (.i (fo tab.testBit (agB ks) (2 ^ m.toNat)),[]) := by
 rw [call_k lf n_spec_l3Forced _ (F := F_spec_l3Forced) rfl rfl]
 rcases l_forced h1 h5 ks hk tab (fun _ _ => rfl) (2 ^ m.toNat) 0 (-1) true (by omega) (.inl ⟨rfl,rfl,fun s hs => by omega⟩) with ⟨out,first,hinv,L⟩ | ⟨hc,L⟩
 ·obtain ⟨s0,h0,g0⟩ := hne
  rcases hinv with ⟨_,_,a3⟩ | ⟨rfl,b,rfl,a4,a5⟩
  ·rw [a3 s0 h0] at g0; cases g0
  ·have e := (fo_b ⟨s0,h0,g0⟩ b).2 a5
   unfold stFo at L
   simp at L
   simp [F_spec_l3Forced,L,e]
 ·have e := (fo_n hne).2 hc
  unfold stFo at L
  simp at L
  simp [F_spec_l3Forced,L,e]
end
section
attribute [-simp] DV.cells sliceD
attribute [local simp] cells_st cells_sl cells_i cells_y cells_b cells_s cells_w
theorem tab_bit {m : Int} (h1 : 1 ≤ m) (h5 : m ≤ 5) (ts : List T) {s : Nat} (hs : s < 2 ^ m.toNat) : (tabT m ts).testBit s = tv ts s := by
 unfold tabT
 rw [tabN_bit]; simp [hs]
/-- what is known of a term by what is known of its tests -/
def foT (m : Int) (ts : List T) (ks : List Int) : Int := fo (tv ts) (agB ks) (2 ^ m.toNat)
theorem foT_tab {m : Int} (h1 : 1 ≤ m) (h5 : m ≤ 5) (ts : List T) (ks : List Int) : fo (tabT m ts).testBit (agB ks) (2 ^ m.toNat) = foT m ts ks :=
 fo_congr fun s hs => ⟨rfl,fun _ => tab_bit h1 h5 ts hs⟩
theorem ks_some {m : Int} {ks : List Int} (h : ksOk m ks = true) : ∃ s,s < 2 ^ m.toNat ∧ agB ks s = true := by
 obtain ⟨h1,h2,h3⟩ := ksOk_iff.1 h
 obtain ⟨s,q1,q2⟩ := agB_some h3
 exact ⟨s,by rw [show m.toNat = ks.length by omega]; exact q1,q2⟩
def told (m : Nat) (st so : Nat) : List Int := (List.range m).map fun k => if so.testBit k then bI (st.testBit k) else -1
theorem bI_eq1 (b : Bool) : (bI b == 1) = b := by cases b <;> rfl
/-- proof: the value is forced by what is told -/
def prf (m : Int) (ts : List T) (st so : Nat) : Bool := foT m ts (told m.toNat st so) != -1
end
section
attribute [-simp] DV.cells sliceD
attribute [local simp] cells_st cells_sl cells_i cells_y cells_b cells_s cells_w
def agW : List Int → Nat → BitVec 32 → BitVec 32
 | [],_,w => w
 | k :: r,i,w => agW r (i + 1) (if k = 0 then w &&& ~~~(yesW i) else if k = 1 then w &&& yesW i else w)
theorem agW_bit : ∀ {ks : List Int} {i : Nat} {w : BitVec 32} {s : Nat},ks.all kOk = true → i + ks.length ≤ 5 → s < 32 → (agW ks i w).getLsbD s = (w.getLsbD s && agB ks (s / 2 ^ i))
 | [],i,w,s,_,_,_ => by simp [agW,agB,ag]
 | k :: r,i,w,s,h,hi,hs => by
  simp only [List.all_cons,Bool.and_eq_true] at h
  simp only [List.length_cons] at hi
  have hk : -1 ≤ k ∧ k ≤ 1 := by simpa [kOk] using h.1
  simp only [agW]
  rw [agW_bit h.2 (by omega) hs,agB_cons]
  have e1 : s / 2 ^ (i + 1) = s / 2 ^ i / 2 := by rw [Nat.pow_succ,Nat.div_div_eq_div_mul]
  have e2 : (s / 2 ^ i).testBit 0 = s.testBit i := by rw [Nat.testBit_div_two_pow]; simp
  have y := yes_bit ⟨i,by omega⟩ ⟨s,hs⟩
  simp only at y
  rw [e1,e2]
  have c : k = -1 ∨ k = 0 ∨ k = 1 := by omega
  rcases c with rfl | rfl | rfl
  ·simp
  ·rw [if_pos rfl,BitVec.getLsbD_and,BitVec.getLsbD_not,y]
   cases w.getLsbD s <;> cases s.testBit i <;> simp [bI,hs]
  ·rw [if_neg (by omega),if_pos rfl,BitVec.getLsbD_and,y]
   cases w.getLsbD s <;> cases s.testBit i <;> simp [bI]
theorem yes_at {i : Nat} (h : i < 5) : ([DV.w 2863311530#32,DV.w 3435973836#32,DV.w 4042322160#32,DV.w 4278255360#32,DV.w 4294901760#32])[i]? = some (.w (yesW i)) := by
 have c : i = 0 ∨ i = 1 ∨ i = 2 ∨ i = 3 ∨ i = 4 := by omega
 rcases c with rfl | rfl | rfl | rfl | rfl <;> rfl
/-- the states that say so of a test -/
def syI (k : Nat) (b : Int) : BitVec 32 := if b = 1 then yesW k else ~~~ yesW k
theorem c_impl_statesSaying {k : Nat} (hk : k < 5) (b : Int) : call lf n_impl_statesSaying [.i k,.i b] = some (.w (syI k b),[]) := by
 have y := yes_at hk
 have k5 : (k : Int) < 5 := by omega
 rw [call_k lf n_impl_statesSaying _ (F := F_impl_statesSaying) rfl rfl]
 unfold syI
 by_cases h : b = 1
 ·have e : (b == 1) = true := by simpa using h
  simp [F_impl_statesSaying,gEnv_0,y,k5,e,h]
 ·have e : (b == 1) = false := by simpa using h
  simp [F_impl_statesSaying,gEnv_0,y,k5,e,h]
set_option maxHeartbeats 4000000 in
theorem ones_bit {s : Nat} (hs : s < 32) : (4294967295#32).getLsbD s = true := by
 have : ∀ s : _root_.Fin 32,(4294967295#32).getLsbD s.val = true := by decide +kernel
 exact this ⟨s,hs⟩
theorem agB_mod : ∀ {ks : List Int} (s : Nat),agB ks (s % 2 ^ ks.length) = agB ks s
 | [],s => rfl
 | k :: r,s => by
  rw [agB_cons,agB_cons,List.length_cons]
  have e1 : (s % 2 ^ (r.length + 1)).testBit 0 = s.testBit 0 := by rw [Nat.testBit_mod_two_pow]; simp
  have e2 : s % 2 ^ (r.length + 1) / 2 = (s / 2) % 2 ^ r.length := by rw [Nat.pow_succ,Nat.mul_comm,Nat.mod_mul_right_div_self]
  rw [e1,e2,agB_mod (ks := r) (s / 2)]
theorem tv_mod {m : Int} {ts : List T} (h : tmOk m ts = true) {s : Nat} (hs : s < 32) : tv ts (s % 2 ^ m.toNat) = tv ts s := by
 obtain ⟨h1,_,_⟩ := tmOk_iff.1 h
 obtain ⟨x,hb,_,_,htv⟩ := tv_tree h
 have hle : s % 2 ^ m.toNat < 32 := Nat.lt_of_le_of_lt (Nat.mod_le _ _) hs
 rw [htv _ hs,htv _ hle]
 refine ev_congr (m := m) (fun a ha => ?_) hb
 rw [Nat.testBit_mod_two_pow]
 have : a < m.toNat := by omega
 simp [this]
theorem and_eq_iff (A W : BitVec 32) : (W &&& A = A) ↔ ∀ s,s < 32 → A.getLsbD s = true → W.getLsbD s = true := by
 constructor
 ·intro h s hs ha
  have := congrArg (fun v => BitVec.getLsbD v s) h
  simp only [BitVec.getLsbD_and,ha,Bool.and_true] at this
  exact this
 ·intro h
  apply BitVec.eq_of_getLsbD_eq
  intro s hs
  rw [BitVec.getLsbD_and]
  cases ha : A.getLsbD s with
  | false => simp
  | true => simp [h s hs ha]
theorem and_zero_iff (A W : BitVec 32) : (W &&& A = 0#32) ↔ ∀ s,s < 32 → A.getLsbD s = true → W.getLsbD s = false := by
 constructor
 ·intro h s hs ha
  have := congrArg (fun v => BitVec.getLsbD v s) h
  simp only [BitVec.getLsbD_and,ha,Bool.and_true,BitVec.getLsbD_zero] at this
  exact this
 ·intro h
  apply BitVec.eq_of_getLsbD_eq
  intro s hs
  rw [BitVec.getLsbD_and,BitVec.getLsbD_zero]
  cases ha : A.getLsbD s with
  | false => simp
  | true => simp [h s hs ha]
theorem ag_bits {m : Int} {ts : List T} {ks : List Int} (h1 : tmOk m ts = true) (h2 : ksOk m ks = true) (b : Bool) :
  (∀ s,s < 32 → (agW ks 0 (4294967295#32)).getLsbD s = true → (tsW ts).getLsbD s = b) ↔ foT m ts ks = bI b := by
 obtain ⟨h3,_,_⟩ := tmOk_iff.1 h1
 obtain ⟨_,k2,k3⟩ := ksOk_iff.1 h2
 obtain ⟨p1,p2,p3⟩ := pow5 h3.1 h3.2
 have hl : m.toNat = ks.length := by omega
 have key : ∀ s,s < 32 → (agW ks 0 (4294967295#32)).getLsbD s = agB ks s := fun s hs => by
  rw [agW_bit k3 (by omega) hs,ones_bit hs]; simp
 unfold foT
 rw [fo_b (ks_some h2)]
 constructor
 ·intro h s hs hg
  exact h s (by omega) (by rw [key s (by omega)]; exact hg)
 ·intro h s hs hg
  rw [key s hs,← agB_mod,← hl] at hg
  have := h (s % 2 ^ m.toNat) (Nat.mod_lt _ (by omega)) hg
  rw [tv_mod h1 hs] at this
  exact this
/-- the value among some states -/
def vaW (v w : BitVec 32) : Int := if v &&& w == w then 1 else if v &&& w == 0#32 then 0 else -1
theorem c_impl_valueAmong (v w : BitVec 32) : call lf n_impl_valueAmong [.w v,.w w] = some (.i (vaW v w),[]) := by
 rw [call_k lf n_impl_valueAmong _ (F := F_impl_valueAmong) rfl rfl]
 unfold vaW
 cases h1 : (v &&& w == w) with
 | true => simp [F_impl_valueAmong,h1]
 | false =>
  cases h2 : (v &&& w == 0#32) with
  | true => simp [F_impl_valueAmong,h1,h2]
  | false => simp [F_impl_valueAmong,h1,h2]
theorem vaW_foT {m : Int} {ts : List T} {ks : List Int} (h1 : tmOk m ts = true) (h2 : ksOk m ks = true) : vaW (tsW ts) (agW ks 0 (4294967295#32)) = foT m ts ks := by
 have a1 := ag_bits h1 h2 true
 have a0 := ag_bits h1 h2 false
 rw [← and_eq_iff] at a1
 rw [← and_zero_iff] at a0
 unfold vaW
 generalize agW ks 0 (4294967295#32) = A at *
 rcases fo_or (tv ts) (agB ks) (2 ^ m.toNat) with h | h | h
 ·have e : foT m ts ks = 1 := h
  rw [if_pos (by rw [a1.2 e]; exact beq_self_eq_true _),e]
 ·have e : foT m ts ks = 0 := h
  have q := a0.2 e
  rw [if_neg,if_pos (by rw [q]; exact beq_self_eq_true _),e]
  intro hq
  have := a1.1 (by simpa using hq)
  rw [e] at this; cases this
 ·have e : foT m ts ks = -1 := h
  rw [if_neg,if_neg,e]
  ·intro hq
   have := a0.1 (by simpa using hq)
   rw [e] at this; cases this
  ·intro hq
   have := a1.1 (by simpa using hq)
   rw [e] at this; cases this
end
section
attribute [-simp] DV.cells sliceD
attribute [local simp] cells_st cells_sl cells_i cells_y cells_b cells_s cells_w
theorem div_bI (a s : Nat) : (a : Int) / 2 ^ s % 2 = bI (a.testBit s) := by
 unfold bI
 rw [Nat.testBit_eq_decide_div_mod_eq]
 have : (a : Int) / 2 ^ s % 2 = ((a / 2 ^ s % 2 : Nat) : Int) := by simp
 rw [this]
 by_cases h : a / 2 ^ s % 2 = 1
 ·simp [h]
 ·have : a / 2 ^ s % 2 = 0 := by omega
  simp [this]
theorem c_impl_hasTest (so k : Nat) (hk : k ≤ 40) : call lf n_impl_hasTest [.i so,.i k] = some (.b (so.testBit k),[]) := by
 rw [call_k lf n_impl_hasTest _ (F := F_impl_hasTest) rfl rfl]
 have ni : ¬ (k : Int) < 0 := by omega
 have e : andI (shrI (so : Int) (k : Int)) 1 = bI (so.testBit k) := by
  rw [bit_and,shr1 (by omega) (by omega),Int.toNat_natCast,div_bI]
 simp [F_impl_hasTest,ni,e,bI_eq1]
end
section
theorem agB_iff : ∀ {ks : List Int} {s : Nat},agB ks s = true ↔ ∀ k v,ks[k]? = some v → v = -1 ∨ v = bI (s.testBit k)
 | [],s => by simp [agB,ag]
 | a :: r,s => by
  rw [agB_cons]
  simp only [Bool.and_eq_true,Bool.or_eq_true,beq_iff_eq]
  rw [agB_iff (ks := r)]
  constructor
  ·rintro ⟨h1,h2⟩ k v hv
   cases k with
   | zero => simp at hv; subst hv; exact h1
   | succ k => simp at hv; have := h2 k v hv; rw [Nat.testBit_succ]; exact this
  ·intro h
   refine ⟨h 0 a rfl,fun k v hv => ?_⟩
   have := h (k + 1) v (by simpa using hv)
   rw [Nat.testBit_succ] at this
   exact this
theorem bI_inj {a b : Bool} : bI a = bI b ↔ a = b := by cases a <;> cases b <;> simp [bI]
end
section
def gN (m : Int) (t : List T) (s : Nat) : Nat → List Int → Nat
 | _,[] => 0
 | so,a :: r => if prf m t s so then 0 else 1 + gN m t s (so ||| 2 ^ a.toNat) r
def cA (us : List T) (a : Nat) : Int := (us.getD a (0,0)).1
/-- what some tests cost -/
def cB (us : List T) (so : Nat) : Nat → Int
 | 0 => 0
 | k + 1 => cB us so k + if so.testBit k then cA us k else 0
/-- the weight of the states that some tests leave open -/
def owT (us t : List T) (so : Nat) : Int := sumTo (fun s => if prf us.length t s so then 0 else wt us s) (2 ^ us.length)
def cC (us t : List T) : Nat → List Int → Int
 | _,[] => 0
 | so,a :: r => cA us a.toNat * owT us t so + cC us t (so ||| 2 ^ a.toNat) r
end
section
def rng (n : Nat) : List Int := (List.range n).map fun (k : Nat) => (k : Int)
end
section
def hkn (m : Nat) (ks : List Int) (so : Nat) : Prop := ∀ k,k < m → (ks[k]? = some (-1) ↔ so.testBit k = false)
def non (m : Nat) : List Int := List.replicate m (-1)
end
section
/-- the chance of a test to end a row -/
def eA (us : List T) (row : Int) (a : Nat) : Int := if row = 0 then 6 - (us.getD a (0,0)).2 else (us.getD a (0,0)).2
def rA (us : List T) (row : Int) : Int → List Int → Int
 | _,[] => 0
 | on,a :: r => cA us a.toNat * on * 6 ^ (r.length + 1) + rA us row (on * (6 - eA us row a.toNat)) r
end
section
def pY : List T → Int
 | [] => 1
 | t :: r => t.2 * pY r
def pN : List T → Int
 | [] => 1
 | t :: r => (6 - t.2) * pN r
end
section
attribute [-simp] DV.cells sliceD
attribute [local simp] cells_st cells_sl cells_i cells_y cells_b cells_s cells_w
theorem non_succ (k : Nat) : non (k + 1) = non k ++ [-1] := by unfold non; rw [List.replicate_succ']
theorem non_len (k : Nat) : (non k).length = k := by simp [non]
theorem c_spec_l4None {m : Int} (h0 : 0 ≤ m) (h5 : m ≤ 5) : call lf n_spec_l4None [.i m] = some (.fr 1 ((non m.toNat).map .i),[]) := by
 obtain ⟨n,rfl⟩ := Int.eq_ofNat_of_zero_le h0
 have L := loop_count (lf := lf) (L := F_spec_l4None_L0) n (fun i => ⟨[(0,.i n),(3,.own 2568 i 0 i),(4,.i i)],[(2568,(non i).map .i)]⟩) (x := .exit 0) (R := ⟨[(0,.i n),(3,.own 2568 n 0 n),(4,.i n)],[(2568,(non n).map .i)]⟩) (fun i hi => by
  have w1 : wr ((i : Int) + 1) = i + 1 := wr_id (by omega) (by omega)
  have lb : i + 1 ≤ bound := by unfold bound; omega
  have e := non_succ i
  have tl := non_len i
  simp [F_spec_l4None_L0,hi,w1,lb,e,tl]) (by simp [F_spec_l4None_L0]) (by simp)
 rw [call_k lf n_spec_l4None _ (F := F_spec_l4None) rfl rfl]
 have L' : ex lf F_spec_l4None_W0 ⟨[(0,.i n),(3,.own 2568 0 0 0),(4,.i 0)],[(2568,[])]⟩ = some (.exit 0,⟨[(0,.i n),(3,.own 2568 n 0 n),(4,.i n)],[(2568,(non n).map .i)]⟩) := L
 have tl := non_len n
 simp [F_spec_l4None,L',tl]
end
section
attribute [-simp] DV.cells sliceD
attribute [local simp] cells_st cells_sl cells_i cells_y cells_b cells_s cells_w
theorem p6 : ∀ {n : Nat},n ≤ 5 → (1 : Int) ≤ 6 ^ n ∧ (6 : Int) ^ n ≤ 7776 := by
 intro n hn
 have : n = 0 ∨ n = 1 ∨ n = 2 ∨ n = 3 ∨ n = 4 ∨ n = 5 := by omega
 rcases this with rfl | rfl | rfl | rfl | rfl | rfl <;> decide
def stW (us : List T) (tab : Nat) (os : List Int) (k : Nat) (ks : List Int) (w a sum sd : Int) : LS :=
 ⟨[(0,.sl 0 (us.map e2)),(1,.i tab),(2,.sl 0 (os.map .i)),(3,.i k),(4,.sl 0 (ks.map .i)),(5,.i w),(13,.i a),(14,.i sum),(15,.i sd)],[]⟩
theorem lend_set (l : List Int) (j : Nat) (v : Int) : lendL ((l.map DV.i).set j (.i v)) = (l.map .i).set j (.i v) := by
 rw [show (l.map DV.i).set j (.i v) = (l.set j v).map .i by rw [List.map_set]]
 exact lend_i _
end
section
inductive PT where
 | stop
 | ask (k : Nat) (no yes : PT)
/-- how many are not known -/
def uk : List Int → Nat
 | [] => 0
 | k :: r => (if k = -1 then 1 else 0) + uk r
theorem uk_set {b : Int} (hb : b ≠ -1) : ∀ {ks : List Int} {k : Nat},ks[k]? = some (-1) → uk (ks.set k b) + 1 = uk ks
 | [],k,h => by simp at h
 | x :: r,0,h => by
  simp only [List.getElem?_cons_zero,Option.some.injEq] at h
  subst h
  simp only [List.set_cons_zero,uk,if_neg hb,if_true]
  omega
 | x :: r,k + 1,h => by
  simp only [List.getElem?_cons_succ] at h
  have := uk_set hb h
  simp only [List.set_cons_succ,uk]
  omega
theorem uk_non (m : Nat) : uk (non m) = m := by
 induction m with
 | zero => rfl
 | succ n ih =>
  show uk (List.replicate (n + 1) (-1)) = n + 1
  rw [List.replicate_succ,uk,if_pos rfl,show List.replicate n (-1 : Int) = non n from rfl,ih]
  omega
theorem agB_put {b : Bool} {s : Nat} : ∀ {ks : List Int} {k : Nat},ks[k]? = some (-1) → agB (ks.set k (bI b)) s = (agB ks s && (s.testBit k == b)) := by
 intro ks k h
 rw [Bool.eq_iff_iff,Bool.and_eq_true,agB_iff,agB_iff,beq_iff_eq]
 have hk : k < ks.length := (List.getElem?_eq_some_iff.1 h).1
 constructor
 ·intro H
  refine ⟨fun j v hj => ?_,?_⟩
  ·by_cases e : j = k
   ·subst e; rw [h] at hj; injection hj with hj; exact .inl hj.symm
   ·exact H j v (by rw [List.getElem?_set_ne (Ne.symm e)]; exact hj)
  ·rcases H k (bI b) (by rw [List.getElem?_set_self hk]) with q | q
   ·cases b <;> simp [bI] at q
   ·exact (bI_inj.1 q).symm
 ·rintro ⟨H,hb⟩ j v hj
  by_cases e : j = k
  ·subst e
   rw [List.getElem?_set_self hk] at hj
   injection hj with hj
   right
   rw [← hj,hb]
  ·rw [List.getElem?_set_ne (Ne.symm e)] at hj
   exact H j v hj
theorem bI_0 : bI false = 0 := rfl
theorem bI_1 : bI true = 1 := rfl
theorem kOk_set {ks : List Int} (h : ks.all kOk = true) (k : Nat) (b : Bool) : (ks.set k (bI b)).all kOk = true := by
 rw [List.all_eq_true] at h ⊢
 intro x hx
 rcases List.mem_or_eq_of_mem_set hx with h1 | h1
 ·exact h x h1
 ·rw [h1]; cases b <;> decide
theorem non_all (m : Nat) : (non m).all kOk = true := by
 rw [List.all_eq_true]
 intro x hx
 rw [List.eq_of_mem_replicate hx]
 decide
theorem agB_non (m s : Nat) : agB (non m) s = true := by
 rw [agB_iff]
 intro k v h
 left
 exact List.eq_of_mem_replicate (List.mem_of_getElem? h)
def fcd (m : Nat) (t : List T) (ks : List Int) : Bool := foT m t ks != -1
theorem fcd_iff {m : Nat} {t : List T} {ks : List Int} (hl : ks.length = m) (hk : ks.all kOk = true) : fcd m t ks = true ↔ ∃ b,∀ s,s < 2 ^ m → agB ks s = true → tv t s = b := by
 subst hl
 have hne := agB_some hk
 have F := fun b => fo_b (f := tv t) (g := agB ks) hne b
 have O := fo_or (tv t) (agB ks) (2 ^ ks.length)
 unfold fcd foT
 rw [Int.toNat_natCast,bne_iff_ne]
 constructor
 ·intro h
  rcases O with o | o | o
  ·exact ⟨true,(F true).1 o⟩
  ·exact ⟨false,(F false).1 o⟩
  ·exact absurd o h
 ·rintro ⟨b,hb⟩ h
  have := (F b).2 hb
  rw [h] at this
  cases b <;> simp [bI] at this
def okT (m : Nat) (t : List T) : List Int → PT → Prop
 | ks,.stop => fcd m t ks = true
 | ks,.ask k n y => fcd m t ks = false ∧ ks[k]? = some (-1) ∧ okT m t (ks.set k 0) n ∧ okT m t (ks.set k 1) y
end
section
/-- from what is known on,from nothing known on -/
theorem ks_ex {ks : List Int} {k : Nat} (h : ks[k]? = some (-1)) : k < ks.length := (List.getElem?_eq_some_iff.1 h).1
end
section
def dpT : PT → Nat
 | .stop => 0
 | .ask _ n y => 1 + max (dpT n) (dpT y)
theorem dpT_le {m : Nat} {t : List T} : ∀ (x : PT) (ks : List Int),ks.length = m → okT m t ks x → dpT x ≤ uk ks
 | .stop,_,_,_ => Nat.zero_le _
 | .ask k n y,ks,hl,⟨h1,h2,h3,h4⟩ => by
  have q := fun (b : Bool) => uk_set (b := bI b) (by cases b <;> simp [bI]) h2
  have a0 := dpT_le n (ks.set k (bI false)) (by simpa using hl) h3
  have a1 := dpT_le y (ks.set k (bI true)) (by simpa using hl) h4
  have q0 := q false
  have q1 := q true
  simp only [dpT]
  omega
end
section
abbrev C3 := Int × Int × Int
/-- a tree with the places of its choices -/
inductive LT where
 | stop
 | ask (p k : Nat) (no yes : LT)
def LT.er : LT → PT
 | .stop => .stop
 | .ask _ k n y => .ask k n.er y.er
def LT.size : LT → Nat
 | .stop => 0
 | .ask _ _ n y => 1 + n.size + y.size
/-- where one may go on to from a place -/
def nxt (N : Nat) (p : Nat) (a : Int) : Prop := a = -1 ∨ ((p : Int) + 1 ≤ a ∧ a ≤ (N : Int) - 1)
instance (N p : Nat) (a : Int) : Decidable (nxt N p a) := by unfold nxt; infer_instance
/-- the row holds the tree,from a place on -/
def enc (P : List C3) : Int → LT → Prop
 | a,.stop => a = -1
 | a,.ask p k n y => a = (p : Int) ∧ ∃ no ye,P[p]? = some ((k : Int),no,ye) ∧ nxt P.length p no ∧ nxt P.length p ye ∧ enc P no n ∧ enc P ye y
/-- what is checked,from a place on -/
def ck (m : Nat) (t : List T) (P : List C3) : Nat → Int → List Int → Int × Bool
 | 0,_,_ => (0,false)
 | f + 1,a,ks => if a = -1 ∨ fcd m t ks = true then (0,decide (a = -1) && fcd m t ks) else
  match P[a.toNat]? with
  | none => (0,false)
  | some (k,no,ye) =>
   if ¬ (0 ≤ k ∧ k < m) ∨ ks[k.toNat]? ≠ some (-1) then (0,false)
   else if ¬ nxt P.length a.toNat no then (0,false)
   else if (ck m t P f no (ks.set k.toNat 0)).2 = false then (0,false)
   else if ¬ nxt P.length a.toNat ye then (0,false)
   else if (ck m t P f ye (ks.set k.toNat 1)).2 = false then (0,false)
   else (1 + (ck m t P f no (ks.set k.toNat 0)).1 + (ck m t P f ye (ks.set k.toNat 1)).1,true)
theorem ck_of {m : Nat} {t : List T} {P : List C3} : ∀ (L : LT) (f : Nat) (a : Int) (ks : List Int),ks.length = m → uk ks < f → enc P a L → okT m t ks L.er → ck m t P f a ks = ((L.size : Int),true)
 | .stop,0,_,_,_,hf,_,_ => by omega
 | .stop,f + 1,a,ks,hl,hf,he,ho => by
  have he : a = -1 := he
  have ho : fcd m t ks = true := ho
  simp only [ck]
  rw [if_pos (.inl he),ho,he]
  rfl
 | .ask p k n y,0,_,_,_,hf,_,_ => by omega
 | .ask p k n y,f + 1,a,ks,hl,hf,⟨e,no,ye,h1,h2,h3,h4,h5⟩,⟨o1,o2,o3,o4⟩ => by
  subst e
  have q := fun (b : Bool) => uk_set (b := bI b) (by cases b <;> simp [bI]) o2
  have q0 := q false
  have q1 := q true
  have c0 := ck_of n f no (ks.set k 0) (by simpa using hl) (by rw [bI_0] at q0; omega) h4 o3
  have c1 := ck_of y f ye (ks.set k 1) (by simpa using hl) (by rw [bI_1] at q1; omega) h5 o4
  have hk : k < m := by rw [← hl]; exact ks_ex o2
  simp only [ck]
  rw [if_neg (by rw [o1]; rintro (h | h); omega; cases h),Int.toNat_natCast,h1]
  simp only [Int.toNat_natCast]
  rw [if_neg (by rintro (h | h); omega; exact h o2),if_neg (fun h => h h2),c0,if_neg (by simp),if_neg (fun h => h h3),c1,if_neg (by simp)]
  simp only [LT.size]
  congr 1
theorem ck_to {m : Nat} {t : List T} {P : List C3} : ∀ (f : Nat) (a : Int) (ks : List Int),ks.length = m → (a = -1 ∨ 0 ≤ a) → (ck m t P f a ks).2 = true → ∃ L,enc P a L ∧ okT m t ks L.er ∧ (ck m t P f a ks).1 = (L.size : Int)
 | 0,a,ks,hl,ha,h => by simp [ck] at h
 | f + 1,a,ks,hl,ha,h => by
  simp only [ck] at h ⊢
  by_cases c1 : a = -1 ∨ fcd m t ks = true
  ·rw [if_pos c1] at h ⊢
   simp only [Bool.and_eq_true,decide_eq_true_eq] at h
   exact ⟨.stop,h.1,h.2,rfl⟩
  ·rw [if_neg c1] at h ⊢
   cases hp : P[a.toNat]? with
   | none => rw [hp] at h; cases h
   | some c =>
    obtain ⟨k,no,ye⟩ := c
    rw [hp] at h
    simp only at h ⊢
    by_cases c2 : ¬ (0 ≤ k ∧ k < m) ∨ ks[k.toNat]? ≠ some (-1)
    ·rw [if_pos c2] at h; cases h
    rw [if_neg c2] at h ⊢
    by_cases c3 : ¬ nxt P.length a.toNat no
    ·rw [if_pos c3] at h; cases h
    rw [if_neg c3] at h ⊢
    by_cases c4 : (ck m t P f no (ks.set k.toNat 0)).2 = false
    ·rw [if_pos c4] at h; cases h
    rw [if_neg c4] at h ⊢
    by_cases c5 : ¬ nxt P.length a.toNat ye
    ·rw [if_pos c5] at h; cases h
    rw [if_neg c5] at h ⊢
    by_cases c6 : (ck m t P f ye (ks.set k.toNat 1)).2 = false
    ·rw [if_pos c6] at h; cases h
    rw [if_neg c6]
    have n3 : nxt P.length a.toNat no := Classical.not_not.1 c3
    have n5 : nxt P.length a.toNat ye := Classical.not_not.1 c5
    have k2 : (0 ≤ k ∧ k < m) ∧ ks[k.toNat]? = some (-1) := by
     rw [not_or] at c2
     exact ⟨Classical.not_not.1 c2.1,Classical.not_not.1 c2.2⟩
    have a0 : 0 ≤ a := by rcases ha with e | e; exact absurd (.inl e) c1; exact e
    have nx : ∀ {b : Int},nxt P.length a.toNat b → b = -1 ∨ 0 ≤ b := fun h => by rcases h with h | h; exact .inl h; exact .inr (by omega)
    obtain ⟨L0,e0,o0,z0⟩ := ck_to f no (ks.set k.toNat 0) (by simpa using hl) (nx n3) (by simpa using c4)
    obtain ⟨L1,e1,o1,z1⟩ := ck_to f ye (ks.set k.toNat 1) (by simpa using hl) (nx n5) (by simpa using c6)
    rw [not_or] at c1
    refine ⟨.ask a.toNat k.toNat L0 L1,⟨by omega,no,ye,by rw [hp,Int.toNat_of_nonneg k2.1.1],n3,n5,e0,e1⟩,⟨by simpa using c1.2,k2.2,o0,o1⟩,?_⟩
    rw [z0,z1]
    simp only [LT.size]
    omega
/-- the tree is told by the row -/
theorem enc_one {P : List C3} : ∀ {L M : LT} {a : Int},enc P a L → enc P a M → L = M
 | .stop,.stop,_,_,_ => rfl
 | .stop,.ask p k n y,a,h,⟨e,_⟩ => by
  have h : a = -1 := h
  omega
 | .ask p k n y,.stop,a,⟨e,_⟩,h => by
  have h : a = -1 := h
  omega
 | .ask p k n y,.ask p' k' n' y',a,⟨e,no,ye,h1,_,_,h4,h5⟩,⟨e',no',ye',g1,_,_,g4,g5⟩ => by
  have ep : p = p' := by omega
  subst ep
  rw [h1] at g1
  simp only [Option.some.injEq,Prod.mk.injEq] at g1
  obtain ⟨g1,rfl,rfl⟩ := g1
  rw [enc_one h4 g4,enc_one h5 g5,show k = k' by omega]
/-- where a row goes on to -/
def rfs : List C3 → List Int
 | [] => []
 | (_,no,ye) :: r => (if no = -1 then [] else [no]) ++ (if ye = -1 then [] else [ye]) ++ rfs r
def oncP (P : List C3) : Prop := (rfs P).Nodup ∧ ∀ a ∈ rfs P,0 ≤ a ∧ a < P.length
/-- how often a place is in a tree -/
def LT.cnt (a : Nat) : LT → Nat
 | .stop => 0
 | .ask p _ n y => (if p = a then 1 else 0) + n.cnt a + y.cnt a
def LT.rcn (P : List C3) (a : Nat) : LT → Nat
 | .stop => 0
 | .ask p _ n y => (if (P[p]?.map fun c => c.2.1) = some (a : Int) then 1 else 0) + (if (P[p]?.map fun c => c.2.2) = some (a : Int) then 1 else 0) + n.rcn P a + y.rcn P a
theorem cnt_root {P : List C3} {a : Nat} : ∀ {L : LT} {b : Int},enc P b L → L.cnt a = (if b = (a : Int) then 1 else 0) + L.rcn P a
 | .stop,b,h => by
  have h : b = -1 := h
  simp only [LT.cnt,LT.rcn]
  rw [if_neg (by omega)]
 | .ask p k n y,b,⟨e,no,ye,h1,_,_,h4,h5⟩ => by
  have c0 := cnt_root (a := a) h4
  have c1 := cnt_root (a := a) h5
  simp only [LT.cnt,LT.rcn]
  rw [c0,c1,h1,e]
  simp only [Option.map_some,Option.some.injEq,Int.natCast_inj]
  omega
theorem rfs_mem {a : Int} : ∀ {P : List C3},a ∈ rfs P ↔ a ≠ -1 ∧ ∃ (p : Nat) (c : C3),P[p]? = some c ∧ (c.2.1 = a ∨ c.2.2 = a)
 | [] => by simp [rfs]
 | (k,no,ye) :: r => by
  have ih := rfs_mem (a := a) (P := r)
  simp only [rfs,List.mem_append,ih]
  constructor
  ·rintro ((h | h) | ⟨h,p,c,h1,h2⟩)
   ·split at h
    ·cases h
    ·rename_i hn
     have : a = no := by simpa using h
     subst this
     exact ⟨hn,0,_,rfl,.inl rfl⟩
   ·split at h
    ·cases h
    ·rename_i hn
     have : a = ye := by simpa using h
     subst this
     exact ⟨hn,0,_,rfl,.inr rfl⟩
   ·exact ⟨h,p + 1,c,by simpa using h1,h2⟩
  ·rintro ⟨hn,p,c,h1,h2⟩
   cases p with
   | zero =>
    simp only [List.getElem?_cons_zero,Option.some.injEq] at h1
    subst h1
    simp only at h2
    left
    rcases h2 with h2 | h2
    ·subst h2; left; rw [if_neg hn]; simp
    ·subst h2; right; rw [if_neg hn]; simp
   | succ p => exact .inr ⟨hn,p,c,by simpa using h1,h2⟩
/-- just one goes on to a place,by one answer -/
theorem rfs_one {a : Int} (ha : a ≠ -1) : ∀ {P : List C3},(rfs P).Nodup → ∀ {p q : Nat} {c d : C3},P[p]? = some c → P[q]? = some d → (c.2.1 = a ∨ c.2.2 = a) → (d.2.1 = a ∨ d.2.2 = a) → p = q ∧ ¬ (c.2.1 = a ∧ c.2.2 = a)
 | [],_,p,q,c,d,h,_,_,_ => by simp at h
 | (k,no,ye) :: r,hn,p,q,c,d,hp,hq,hc,hd => by
  simp only [rfs] at hn
  obtain ⟨n1,n2,n3⟩ := List.nodup_append.1 hn
  have head : (no = a ∨ ye = a) → a ∉ rfs r := fun h hm => by
   have : a ∈ (if no = -1 then [] else [no]) ++ (if ye = -1 then [] else [ye]) := by
    rw [List.mem_append]
    rcases h with h | h
    ·subst h; left; rw [if_neg ha]; simp
    ·subst h; right; rw [if_neg ha]; simp
   exact n3 a this a hm rfl
  have two : ¬ (no = a ∧ ye = a) := by
   rintro ⟨rfl,rfl⟩
   rw [if_neg ha] at n1
   simp at n1
  cases p with
  | zero =>
   simp only [List.getElem?_cons_zero,Option.some.injEq] at hp
   subst hp
   simp only at hc
   cases q with
   | zero => exact ⟨rfl,two⟩
   | succ q => exact absurd (rfs_mem.2 ⟨ha,q,d,by simpa using hq,hd⟩) (head hc)
  | succ p =>
   cases q with
   | zero =>
    simp only [List.getElem?_cons_zero,Option.some.injEq] at hq
    subst hq
    exact absurd (rfs_mem.2 ⟨ha,p,c,by simpa using hp,hc⟩) (head hd)
   | succ q =>
    obtain ⟨e,w⟩ := rfs_one ha n2 (p := p) (q := q) (by simpa using hp) (by simpa using hq) hc hd
    exact ⟨by omega,w⟩
theorem enc_stop {P : List C3} {L : LT} (h : enc P (-1) L) : L = .stop := by
 cases L with
 | stop => rfl
 | ask p k n y => obtain ⟨e,_⟩ := h; omega
theorem cnt_low {P : List C3} {a : Nat} : ∀ {L : LT} {b : Int},enc P b L → (a : Int) < b → L.cnt a = 0
 | .stop,_,_,_ => rfl
 | .ask p k n y,b,⟨e,no,ye,h1,h2,h3,h4,h5⟩,hb => by
  have c0 : n.cnt a = 0 := by
   rcases h2 with rfl | h
   ·rw [enc_stop h4]; rfl
   ·exact cnt_low h4 (by omega)
  have c1 : y.cnt a = 0 := by
   rcases h3 with rfl | h
   ·rw [enc_stop h5]; rfl
   ·exact cnt_low h5 (by omega)
  simp only [LT.cnt]
  rw [c0,c1,if_neg (by omega)]
/-- what goes on to a place is counted by the one that does -/
theorem rcn_le {P : List C3} (hn : (rfs P).Nodup) {a q : Nat} {d : C3} (hq : P[q]? = some d) (hd : d.2.1 = (a : Int) ∨ d.2.2 = (a : Int)) : ∀ {L : LT} {b : Int},enc P b L → L.rcn P a ≤ L.cnt q
 | .stop,_,_ => Nat.le_refl _
 | .ask p k n y,b,⟨e,no,ye,h1,h2,h3,h4,h5⟩ => by
  have c0 := rcn_le hn hq hd h4
  have c1 := rcn_le hn hq hd h5
  simp only [LT.rcn,LT.cnt]
  rw [h1]
  simp only [Option.map_some,Option.some.injEq]
  by_cases r0 : no = (a : Int)
  ·obtain ⟨e1,e2⟩ := rfs_one (a := (a : Int)) (by omega) hn h1 hq (.inl r0) hd
   have r1 : ¬ ye = (a : Int) := fun h => e2 ⟨r0,h⟩
   rw [if_pos r0,if_neg r1,if_pos e1]
   omega
  ·by_cases r1 : ye = (a : Int)
   ·obtain ⟨e1,e2⟩ := rfs_one (a := (a : Int)) (by omega) hn h1 hq (.inr r1) hd
    rw [if_neg r0,if_pos r1,if_pos e1]
    omega
   ·rw [if_neg r0,if_neg r1]
    omega
theorem rcn_pos {P : List C3} {a : Nat} : ∀ {L : LT} {b : Int},enc P b L → 0 < L.rcn P a → ∃ (q : Nat) (d : C3),P[q]? = some d ∧ (d.2.1 = (a : Int) ∨ d.2.2 = (a : Int)) ∧ q < a
 | .stop,_,_,h => by simp [LT.rcn] at h
 | .ask p k n y,b,⟨e,no,ye,h1,h2,h3,h4,h5⟩,h => by
  simp only [LT.rcn] at h
  rw [h1] at h
  simp only [Option.map_some,Option.some.injEq] at h
  by_cases r0 : no = (a : Int)
  ·exact ⟨p,_,h1,.inl r0,by rcases h2 with q | q <;> omega⟩
  ·by_cases r1 : ye = (a : Int)
   ·exact ⟨p,_,h1,.inr r1,by rcases h3 with q | q <;> omega⟩
   ·rw [if_neg r0,if_neg r1] at h
    by_cases h0 : 0 < n.rcn P a
    ·exact rcn_pos h4 h0
    ·exact rcn_pos h5 (by omega)
theorem cnt_le {P : List C3} (hn : (rfs P).Nodup) {L : LT} {b : Int} (h : enc P b L) : ∀ a : Nat,L.cnt a ≤ 1 := by
 intro a
 induction a using Nat.strongRecOn with
 | ind a ih =>
  have r := cnt_root (a := a) h
  by_cases hp : 0 < L.rcn P a
  ·obtain ⟨q,d,q1,q2,q3⟩ := rcn_pos h hp
   have le := rcn_le hn q1 q2 h
   by_cases e : b = (a : Int)
   ·have := cnt_low h (a := q) (by omega)
    omega
   ·rw [if_neg e] at r
    have := ih q q3
    omega
  ·rw [r]
   split <;> omega
def sN (f : Nat → Nat) : Nat → Nat
 | 0 => 0
 | n + 1 => sN f n + f n
theorem sN_add (f g : Nat → Nat) : ∀ n,sN (fun k => f k + g k) n = sN f n + sN g n
 | 0 => rfl
 | n + 1 => by simp only [sN,sN_add f g n]; omega
theorem sN_zero : ∀ n,sN (fun _ => 0) n = 0
 | 0 => rfl
 | n + 1 => by simp only [sN,sN_zero n]
theorem sN_at {p : Nat} : ∀ {n : Nat},sN (fun a => if p = a then 1 else 0) n = if p < n then 1 else 0
 | 0 => by simp [sN]
 | n + 1 => by
  simp only [sN,sN_at (n := n)]
  by_cases e : p = n
  ·subst e; simp
  ·rw [if_neg e]
   by_cases h : p < n
   ·rw [if_pos h,if_pos (by omega)]
   ·rw [if_neg h,if_neg (by omega)]
theorem sN_full {f : Nat → Nat} : ∀ {n : Nat},(∀ a,f a ≤ 1) → sN f n ≤ n ∧ (sN f n = n → ∀ a,a < n → f a = 1)
 | 0,_ => ⟨Nat.le_refl _,fun _ a h => by omega⟩
 | n + 1,h => by
  obtain ⟨h1,h2⟩ := sN_full (n := n) h
  have := h n
  simp only [sN]
  refine ⟨by omega,fun e a ha => ?_⟩
  by_cases q : a = n
  ·subst q; omega
  ·exact h2 (by omega) a (by omega)
theorem size_sN {P : List C3} : ∀ {L : LT} {b : Int},enc P b L → sN (fun a => L.cnt a) P.length = L.size
 | .stop,_,_ => sN_zero _
 | .ask p k n y,b,⟨e,no,ye,h1,h2,h3,h4,h5⟩ => by
  have hp : p < P.length := (List.getElem?_eq_some_iff.1 h1).1
  have c0 := size_sN h4
  have c1 := size_sN h5
  simp only [LT.cnt,LT.size]
  rw [sN_add,sN_add,sN_at,if_pos hp,c0,c1]
/-- each choice is come to -/
theorem all_in {P : List C3} (hn : (rfs P).Nodup) {L : LT} {b : Int} (h : enc P b L) (hs : L.size = P.length) : ∀ a,a < P.length → L.cnt a = 1 :=
 (sN_full (fun a => cnt_le hn h a)).2 (by rw [size_sN h,hs])
end
section
def PT.size : PT → Nat
 | .stop => 0
 | .ask _ n y => 1 + n.size + y.size
/-- where a tree begins that is written down from a place on -/
def rt : PT → Nat → Int
 | .stop,_ => -1
 | .ask _ _ _,b => (b : Int)
def ser : PT → Nat → List C3
 | .stop,_ => []
 | .ask k n y,b => ((k : Int),rt n (b + 1),rt y (b + 1 + n.size)) :: (ser n (b + 1) ++ ser y (b + 1 + n.size))
def lab : PT → Nat → LT
 | .stop,_ => .stop
 | .ask k n y,b => .ask b k (lab n (b + 1)) (lab y (b + 1 + n.size))
theorem lab_er : ∀ (x : PT) (b : Nat),(lab x b).er = x
 | .stop,_ => rfl
 | .ask k n y,b => by simp only [lab,LT.er]; rw [lab_er n,lab_er y]
theorem lab_size : ∀ (x : PT) (b : Nat),(lab x b).size = x.size
 | .stop,_ => rfl
 | .ask k n y,b => by simp only [lab,LT.size,PT.size]; rw [lab_size n,lab_size y]
theorem er_size : ∀ L : LT,L.er.size = L.size
 | .stop => rfl
 | .ask p k n y => by simp only [LT.er,PT.size,LT.size]; rw [er_size n,er_size y]
theorem ser_len : ∀ (x : PT) (b : Nat),(ser x b).length = x.size
 | .stop,_ => rfl
 | .ask k n y,b => by simp only [ser,List.length_cons,List.length_append,PT.size]; rw [ser_len n,ser_len y]; omega
theorem rt_nxt {x : PT} {N p b : Nat} (h1 : p < b) (h2 : b + x.size ≤ N) : nxt N p (rt x b) := by
 cases x with
 | stop => exact .inl rfl
 | ask k n y =>
  right
  simp only [PT.size] at h2
  simp only [rt]
  omega
theorem enc_ser : ∀ (x : PT) (pre post : List C3) (b : Nat),pre.length = b → enc (pre ++ (ser x b ++ post)) (rt x b) (lab x b)
 | .stop,_,_,_,_ => rfl
 | .ask k n y,pre,post,b,hb => by
  have c0 := enc_ser n (pre ++ [((k : Int),rt n (b + 1),rt y (b + 1 + n.size))]) (ser y (b + 1 + n.size) ++ post) (b + 1) (by simp [hb])
  have c1 := enc_ser y (pre ++ [((k : Int),rt n (b + 1),rt y (b + 1 + n.size))] ++ ser n (b + 1)) post (b + 1 + n.size) (by simp [hb,ser_len]; omega)
  simp only [List.append_assoc,List.cons_append,List.nil_append] at c0 c1
  have hlen : (pre ++ (ser (.ask k n y) b ++ post)).length = b + (1 + n.size + y.size) + post.length := by
   simp only [List.length_append,ser_len,PT.size,hb]; omega
  refine ⟨rfl,rt n (b + 1),rt y (b + 1 + n.size),?_,rt_nxt (by omega) (by omega),rt_nxt (by omega) (by omega),?_,?_⟩
  ·rw [List.getElem?_append_right (by omega),hb,Nat.sub_self]
   rfl
  ·simp only [ser,List.cons_append,List.append_assoc]
   exact c0
  ·simp only [ser,List.cons_append,List.append_assoc]
   exact c1
theorem rfs_app : ∀ p q : List C3,rfs (p ++ q) = rfs p ++ rfs q
 | [],q => rfl
 | (k,no,ye) :: r,q => by simp only [List.cons_append,rfs,rfs_app r q,List.append_assoc]
theorem rfs_ser : ∀ (x : PT) (b : Nat),(rfs (ser x b)).Nodup ∧ ∀ a ∈ rfs (ser x b),(b : Int) + 1 ≤ a ∧ a ≤ (b : Int) + x.size - 1
 | .stop,b => ⟨List.nodup_nil,fun a h => by cases h⟩
 | .ask k n y,b => by
  obtain ⟨n1,n2⟩ := rfs_ser n (b + 1)
  obtain ⟨y1,y2⟩ := rfs_ser y (b + 1 + n.size)
  have rn : ∀ a,a ∈ (if rt n (b + 1) = -1 then [] else [rt n (b + 1)]) → a = (b : Int) + 1 ∧ 1 ≤ n.size := fun a h => by
   cases n with
   | stop => simp [rt] at h
   | ask k' n' y' =>
    rw [if_neg (by simp only [rt]; omega)] at h
    have : a = ((b + 1 : Nat) : Int) := by simpa [rt] using h
    exact ⟨by omega,by simp only [PT.size]; omega⟩
  have ry : ∀ a,a ∈ (if rt y (b + 1 + n.size) = -1 then [] else [rt y (b + 1 + n.size)]) → a = (b : Int) + 1 + n.size ∧ 1 ≤ y.size := fun a h => by
   cases y with
   | stop => simp [rt] at h
   | ask k' n' y' =>
    rw [if_neg (by simp only [rt]; omega)] at h
    have : a = ((b + 1 + n.size : Nat) : Int) := by simpa [rt] using h
    exact ⟨by omega,by simp only [PT.size]; omega⟩
  have e : rfs (ser (.ask k n y) b) = (if rt n (b + 1) = -1 then [] else [rt n (b + 1)]) ++ (if rt y (b + 1 + n.size) = -1 then [] else [rt y (b + 1 + n.size)]) ++ (rfs (ser n (b + 1)) ++ rfs (ser y (b + 1 + n.size))) := by
   simp only [ser,rfs]
   rw [rfs_app]
  have s1 : (if rt n (b + 1) = -1 then [] else [rt n (b + 1)]).Nodup := by split <;> simp
  have s2 : (if rt y (b + 1 + n.size) = -1 then [] else [rt y (b + 1 + n.size)]).Nodup := by split <;> simp
  rw [e]
  refine ⟨List.nodup_append.2 ⟨List.nodup_append.2 ⟨s1,s2,fun a ha c hc hac => ?_⟩,List.nodup_append.2 ⟨n1,y1,fun a ha c hc hac => ?_⟩,fun a ha c hc hac => ?_⟩,fun a ha => ?_⟩
  ·have := rn a ha
   have := ry c hc
   omega
  ·have := n2 a ha
   have := y2 c hc
   omega
  ·rw [List.mem_append] at ha hc
   rcases ha with ha | ha <;> rcases hc with hc | hc
   ·have := rn a ha; have := n2 c hc; omega
   ·have := rn a ha; have := y2 c hc; omega
   ·have := ry a ha; have := n2 c hc; omega
   ·have := ry a ha; have := y2 c hc; omega
  ·simp only [List.mem_append] at ha
   simp only [PT.size]
   rcases ha with (ha | ha) | ha | ha
   ·have := rn a ha; omega
   ·have := ry a ha; omega
   ·have := n2 a ha; omega
   ·have := y2 a ha; omega
theorem size_dep : ∀ x : PT,x.size + 1 ≤ 2 ^ dpT x
 | .stop => Nat.le_refl _
 | .ask k n y => by
  have a := size_dep n
  have b := size_dep y
  have e1 : 2 ^ dpT n ≤ 2 ^ max (dpT n) (dpT y) := Nat.pow_le_pow_right (by omega) (Nat.le_max_left ..)
  have e2 : 2 ^ dpT y ≤ 2 ^ max (dpT n) (dpT y) := Nat.pow_le_pow_right (by omega) (Nat.le_max_right ..)
  simp only [PT.size,dpT]
  rw [Nat.pow_add,Nat.pow_one]
  omega
theorem okT_size {m : Nat} {t : List T} (hm : m ≤ 5) {x : PT} (h : okT m t (non m) x) : x.size ≤ 31 := by
 have d := dpT_le x (non m) (non_len _) h
 rw [uk_non] at d
 have s := size_dep x
 have : 2 ^ dpT x ≤ 2 ^ 5 := Nat.pow_le_pow_right (by omega) (by omega)
 omega
def oncB (P : List C3) : Bool := decide (rfs P).Nodup && (rfs P).all fun a => decide (0 ≤ a ∧ a < P.length)
theorem oncB_iff {P : List C3} : oncB P = true ↔ oncP P := by
 unfold oncB oncP
 simp only [Bool.and_eq_true,decide_eq_true_eq,List.all_eq_true]
def rot (P : List C3) : Int := if P = [] then -1 else 0
def pkOk (m : Int) (t : List T) (P : List C3) : Bool := tmOk m t && decide (P.length ≤ 31) && (ck m.toNat t P (m.toNat + 1) (rot P) (non m.toNat)).2 && ((ck m.toNat t P (m.toNat + 1) (rot P) (non m.toNat)).1 == (P.length : Int)) && oncB P
/-- a plan is a tree -/
structure isPl (m : Nat) (t : List T) (P : List C3) (L : LT) : Prop where
 e : enc P (rot P) L
 ok : okT m t (non m) L.er
 sz : L.size = P.length
 on : oncP P
 few : P.length ≤ 31
theorem pk_iff {m : Nat} {t : List T} {P : List C3} : pkOk m t P = true ↔ tmOk m t = true ∧ ∃ L,isPl m t P L := by
 unfold pkOk
 rw [Int.toNat_natCast]
 simp only [Bool.and_eq_true,decide_eq_true_eq,beq_iff_eq,oncB_iff]
 constructor
 ·rintro ⟨⟨⟨⟨h1,h2⟩,h3⟩,h4⟩,h5⟩
  refine ⟨h1,?_⟩
  obtain ⟨L,e,o,z⟩ := ck_to (m + 1) (rot P) (non m) (non_len _) (by unfold rot; split; exact .inl rfl; exact .inr (Int.le_refl _)) h3
  exact ⟨L,e,o,by omega,h5,h2⟩
 ·rintro ⟨h1,L,e,o,z,h5,h2⟩
  have := ck_of L (m + 1) (rot P) (non m) (non_len _) (by rw [uk_non]; omega) e o
  rw [this]
  exact ⟨⟨⟨⟨h1,h2⟩,rfl⟩,by rw [z]⟩,h5⟩
/-- a tree that is written down is a plan -/
theorem ser_pl {m : Nat} {t : List T} (hm : m ≤ 5) {x : PT} (h : okT m t (non m) x) : isPl m t (ser x 0) (lab x 0) := by
 have z := okT_size hm h
 have e := enc_ser x [] [] 0 rfl
 obtain ⟨n1,n2⟩ := rfs_ser x 0
 rw [List.nil_append,List.append_nil] at e
 have r : rot (ser x 0) = rt x 0 := by cases x <;> simp [rot,ser,rt]
 refine ⟨by rw [r]; exact e,by rw [lab_er]; exact h,by rw [lab_size,ser_len],⟨n1,fun a ha => ?_⟩,by rw [ser_len]; exact z⟩
 have := n2 a ha
 rw [ser_len]
 omega
end
section
attribute [-simp] DV.cells
attribute [local simp] sliceD cells_st cells_sl cells_i cells_y cells_b cells_s cells_w
theorem lend_e3 (P : List C3) : lendL (P.map e3) = P.map e3 := by rw [lendL_map,List.map_map]; rfl
theorem adopt_e3 (o : Bool) (P : List C3) : adoptL o (P.map e3) = P.map e3 := by rw [adoptL_map,List.map_map]; rfl
theorem new_e3 (P : List C3) : allNewL (P.map e3) = true := by rw [allNewL_all,List.all_map,List.all_eq_true]; intro x _; rfl
theorem al_e3 (P : List C3) : allOldL (P.map e3) = true := by rw [allOldL_all,List.all_map,List.all_eq_true]; intro x _; rfl
theorem tk_e3 (P : List C3) : List.take P.length (P.map e3) = P.map e3 := List.take_of_length_le (by simp)
theorem lt_e3 (n : Nat) (P : List C3) : lendL (List.take n (P.map e3)) = List.take n (P.map e3) := by rw [← List.map_take,lend_e3]
theorem at_e3 {P : List C3} {p : Nat} {c : C3} (h : P[p]? = some c) : atI (P.map e3) (p : Int) = some (.st [.i c.1,.i c.2.1,.i c.2.2]) := by
 simp only [atI,if_pos (Int.natCast_nonneg p)]
 show (P.map e3)[(p : Int).toNat]? = _
 rw [Int.toNat_natCast,List.getElem?_map,h]; rfl
theorem atN_e3 {P : List C3} {p : Nat} {c : C3} (h : P[p]? = some c) : atN (P.map e3) p = some (.st [.i c.1,.i c.2.1,.i c.2.2]) := by
 show (P.map e3)[p]? = _
 rw [List.getElem?_map,h]; rfl
theorem pw2 {f : Nat} (h : f ≤ 5) : (2 : Int) ^ f ≤ 32 := by
 have : f = 0 ∨ f = 1 ∨ f = 2 ∨ f = 3 ∨ f = 4 ∨ f = 5 := by omega
 rcases this with rfl | rfl | rfl | rfl | rfl | rfl <;> decide
theorem ck_bd {m : Nat} {t : List T} {P : List C3} : ∀ (f : Nat) (a : Int) (ks : List Int),0 ≤ (ck m t P f a ks).1 ∧ (ck m t P f a ks).1 + 1 ≤ 2 ^ f
 | 0,a,ks => by simp [ck]
 | f + 1,a,ks => by
  have p : (1 : Int) ≤ 2 ^ f := Int.pow_pos (by omega)
  have e : (2 : Int) ^ (f + 1) = 2 * 2 ^ f := by rw [Int.pow_succ]; omega
  have h0 := fun (k : Int) (no : Int) => ck_bd (m := m) (t := t) (P := P) f no (ks.set k.toNat 0)
  have h1 := fun (k : Int) (no : Int) => ck_bd (m := m) (t := t) (P := P) f no (ks.set k.toNat 1)
  unfold ck
  split
  ·rw [e]; simp; omega
  ·split
   ·rw [e]; simp; omega
   ·rename_i k no ye _
    have := h0 k no
    have := h1 k ye
    split
    ·rw [e]; simp; omega
    ·split
     ·rw [e]; simp; omega
     ·split
      ·rw [e]; simp; omega
      ·split
       ·rw [e]; simp; omega
       ·split
        ·rw [e]; simp; omega
        ·rw [e]; simp only; omega
attribute [local simp] lend_e3 adopt_e3 new_e3 al_e3 lt_e3
def stCk (m tab : Nat) (P : List C3) (p : Nat) (ks : List Int) (c : C3) (s : Int) (i : Int) : LS :=
 ⟨[(0,.i m),(1,.i tab),(2,.sl 0 (P.map e3)),(3,.i p),(4,.sl 0 (ks.map .i)),(13,.oad 6680 1 0 0),(14,.i s),(15,.i i)],[(6680,[.st [.i c.1,.i c.2.1,.i c.2.2]])]⟩
def C3.nx (c : C3) (b : Bool) : Int := if b then c.2.2 else c.2.1
set_option maxHeartbeats 4000000 in
theorem ck_step {m tab : Nat} {P : List C3} {p : Nat} {ks : List Int} {k no ye : Int} {s : Int} {b : Bool} (hP : P.length ≤ 40) (hp : p < P.length) (hl : ks.length ≤ 5) (a0 : 0 ≤ k) (a1 : k < ks.length) (hs : 0 ≤ s ∧ s ≤ 100000)
  {r : Int × Bool} (hr : 0 ≤ r.1 ∧ r.1 ≤ 100000)
  (C : nxt P.length p (if b then ye else no) → call lf n_spec_l6Checks [.i m,.i tab,.sl 0 (P.map e3),.i (if b then ye else no),.sl 0 ((ks.set k.toNat (bI b)).map .i)] = some (.tup [.i r.1,.b r.2],[])) :
  ex lf F_spec_l6Checks_L0 (stCk m tab P p ks (k,no,ye) s (bI b)) =
   if nxt P.length p (if b then ye else no) then (if r.2 = true then some (.normal,stCk m tab P p ks (k,no,ye) (s + r.1) (bI b + 1)) else some (.ret,⟨[(10,.i 0),(11,.b false)],[]⟩)) else some (.ret,⟨[(10,.i 0),(11,.b false)],[]⟩) := by
 unfold stCk
 have lb : ks.length ≤ bound := by unfold bound; omega
 have am : k.toNat < ks.length := by omega
 have w1 : wr ((p : Int) + 1) = (p : Int) + 1 := wr_id (by omega) (by omega)
 have w2 : wr (s + r.1) = s + r.1 := wr_id (by omega) (by omega)
 have w3 : wr ((P.length : Int) - 1) = (P.length : Int) - 1 := wr_id (by omega) (by omega)
 have w0 : wr (1 : Int) = 1 := wr_id (by omega) (by omega)
 have w02 : wr (2 : Int) = 2 := wr_id (by omega) (by omega)
 obtain ⟨v,atk⟩ : ∃ v : Int,atN (ks.map DV.i) k.toNat = some (.i v) := ⟨ks[k.toNat],by show (ks.map DV.i)[k.toNat]? = _; simp [am]⟩
 have t1 : ∀ v : Int,List.take ks.length ((ks.map DV.i).set k.toNat (.i v)) = (ks.map .i).set k.toNat (.i v) := fun v => List.take_of_length_le (by simp)
 have hLE := lend_e3 P
 generalize hq : P.length = N at *
 have hq' : (P.map e3).length = N := by simp [hq]
 generalize hE : P.map e3 = E at *
 rw [List.map_set] at C
 cases b with
 | false =>
  simp only [bI,Bool.false_eq_true,if_false] at C ⊢
  by_cases e : no = -1
  ·subst e
   have n0 : nxt N p (-1) := .inl rfl
   have C := C n0
   rw [if_pos n0]
   cases hb : r.2 <;> rw [hb] at C <;> simp [F_spec_l6Checks_L0,lb,a0,a1,am,atk,w0,w02,w1,w2,w3,t1,lend_set,hLE,C,hq',c_spec_l1In]
  ·have e' : (no != -1) = true := bne_iff_ne.2 e
   by_cases h : (p : Int) + 1 ≤ no ∧ no ≤ (N : Int) - 1
   ·have n0 : nxt N p no := .inr h
    have C := C n0
    rw [if_pos n0]
    have d : decide ((p : Int) + 1 ≤ no ∧ no ≤ (N : Int) - 1) = true := decide_eq_true h
    have C1 := c_spec_l1In no ((p : Int) + 1) ((N : Int) - 1)
    rw [d] at C1
    cases hb : r.2 <;> rw [hb] at C <;> simp [F_spec_l6Checks_L0,lb,a0,a1,am,atk,w0,w02,w1,w2,w3,t1,lend_set,hLE,C,hq',C1,e']
   ·rw [if_neg (by rintro (q | q); exact e q; exact h q)]
    have d : decide ((p : Int) + 1 ≤ no ∧ no ≤ (N : Int) - 1) = false := decide_eq_false h
    have C1 := c_spec_l1In no ((p : Int) + 1) ((N : Int) - 1)
    rw [d] at C1
    simp [F_spec_l6Checks_L0,lb,a0,a1,am,atk,w0,w02,w1,w2,w3,t1,lend_set,hLE,hq',C1,e']
 | true =>
  simp only [bI,if_true] at C ⊢
  by_cases e : ye = -1
  ·subst e
   have n0 : nxt N p (-1) := .inl rfl
   have C := C n0
   rw [if_pos n0]
   cases hb : r.2 <;> rw [hb] at C <;> simp [F_spec_l6Checks_L0,lb,a0,a1,am,atk,w0,w02,w1,w2,w3,t1,lend_set,hLE,C,hq',c_spec_l1In]
  ·have e' : (ye != -1) = true := bne_iff_ne.2 e
   by_cases h : (p : Int) + 1 ≤ ye ∧ ye ≤ (N : Int) - 1
   ·have n0 : nxt N p ye := .inr h
    have C := C n0
    rw [if_pos n0]
    have d : decide ((p : Int) + 1 ≤ ye ∧ ye ≤ (N : Int) - 1) = true := decide_eq_true h
    have C1 := c_spec_l1In ye ((p : Int) + 1) ((N : Int) - 1)
    rw [d] at C1
    cases hb : r.2 <;> rw [hb] at C <;> simp [F_spec_l6Checks_L0,lb,a0,a1,am,atk,w0,w02,w1,w2,w3,t1,lend_set,hLE,C,hq',C1,e']
   ·rw [if_neg (by rintro (q | q); exact e q; exact h q)]
    have d : decide ((p : Int) + 1 ≤ ye ∧ ye ≤ (N : Int) - 1) = false := decide_eq_false h
    have C1 := c_spec_l1In ye ((p : Int) + 1) ((N : Int) - 1)
    rw [d] at C1
    simp [F_spec_l6Checks_L0,lb,a0,a1,am,atk,w0,w02,w1,w2,w3,t1,lend_set,hLE,hq',C1,e']
set_option maxHeartbeats 4000000 in
theorem c_spec_l6Checks {m : Nat} (h1 : 1 ≤ m) (h5 : m ≤ 5) (t : List T) (P : List C3) (hP : P.length ≤ 40) : ∀ (f : Nat) (a : Int) (ks : List Int),f ≤ 6 → ks.length = m → ks.all kOk = true → uk ks < f → (a = -1 ∨ (0 ≤ a ∧ a < P.length)) →
  call lf n_spec_l6Checks [.i m,.i (tabT m t),.sl 0 (P.map e3),.i a,.sl 0 (ks.map .i)] = some (.tup [.i (ck m t P f a ks).1,.b (ck m t P f a ks).2],[])
 | 0,a,ks,hf6,hl,hk,hf,ha => by omega
 | f + 1,a,ks,hf6,hl,hk,hf,ha => by
  rw [call_k lf n_spec_l6Checks _ (F := F_spec_l6Checks) rfl rfl]
  have C3 := c_spec_l3Forced (m := (m : Int)) (by omega) (by omega) ks (by omega) (tabT m t) (by
   obtain ⟨s,q1,q2⟩ := agB_some hk
   exact ⟨s,by rw [Int.toNat_natCast,← hl]; exact q1,q2⟩)
  rw [foT_tab (by omega) (by omega)] at C3
  have fe : (foT m t ks != -1) = fcd m t ks := rfl
  simp only [ck]
  by_cases hs : a = -1 ∨ fcd m t ks = true
  ·rw [if_pos hs]
   by_cases han : a = -1
   ·subst han
    cases hc : fcd m t ks <;> simp [F_spec_l6Checks,C3,fe,hc]
   ·have hc : fcd m t ks = true := by rcases hs with h | h; exact absurd h han; exact h
    have han' : (a == -1) = false := beq_eq_false_iff_ne.2 han
    simp [F_spec_l6Checks,C3,fe,hc,han,han']
  ·rw [if_neg hs]
   have hc : fcd m t ks = false := by cases h : fcd m t ks; rfl; exact absurd (.inr h) hs
   have han : a ≠ -1 := fun h => hs (.inl h)
   have hab : (a == -1) = false := beq_eq_false_iff_ne.2 han
   obtain ⟨p,rfl⟩ : ∃ p : Nat,a = p := ⟨a.toNat,by omega⟩
   have hp : p < P.length := by omega
   obtain ⟨⟨k,no,ye⟩,hPp⟩ : ∃ c,P[p]? = some c := ⟨P[p],List.getElem?_eq_getElem hp⟩
   have AT := at_e3 hPp
   have pc : (p : Int) < P.length := by omega
   rw [Int.toNat_natCast,hPp]
   simp only
   by_cases hk0 : ¬ (0 ≤ k ∧ k < m)
   ·rw [if_pos (.inl hk0)]
    by_cases k0 : k < 0
    ·simp [F_spec_l6Checks,C3,fe,hc,hab,AT,pc,k0]
    ·have k1 : (m : Int) ≤ k := by omega
     simp [F_spec_l6Checks,C3,fe,hc,hab,AT,pc,k0,k1]
   ·have hk0 : 0 ≤ k ∧ k < m := Decidable.not_not.1 hk0
    have kn : k.toNat < ks.length := by omega
    have ka : atI (ks.map DV.i) k = some (.i ks[k.toNat]) := by
     simp only [atI,if_pos hk0.1]
     show (ks.map DV.i)[k.toNat]? = _
     simp [kn]
    have k0 : ¬ k < 0 := by omega
    have k1 : ¬ (m : Int) ≤ k := by omega
    have k2 : k < (ks.length : Int) := by omega
    by_cases hu : ks[k.toNat]? = some (-1)
    ·rw [if_neg (by rintro (h | h); exact h hk0; exact h hu)]
     have hu' : ks[k.toNat] = -1 := by rw [List.getElem?_eq_getElem kn] at hu; injection hu
     rw [hu'] at ka
     have us := fun b : Bool => uk_set (b := bI b) (by cases b <;> simp [bI]) hu
     have IH := fun (b : Bool) (h : nxt P.length p (if b then ye else no)) => c_spec_l6Checks h1 h5 t P hP f (if b then ye else no) (ks.set k.toNat (bI b)) (by omega) (by simpa using hl) (kOk_set hk _ b) (by have := us b; omega) (by rcases h with h | h; exact .inl h; right; omega)
     have p6 : (2 : Int) ^ f ≤ 32 := pw2 (by omega)
     have B := fun (b : Bool) => ck_bd (m := m) (t := t) (P := P) f (if b then ye else no) (ks.set k.toNat (bI b))
     have S0 := ck_step (tab := tabT m t) (s := 1) (b := false) (k := k) (no := no) (ye := ye) hP hp (by omega) hk0.1 k2 (by omega) (by have := B false; omega) (IH false)
     have S1 := ck_step (tab := tabT m t) (s := 1 + (ck m t P f no (ks.set k.toNat 0)).1) (b := true) (k := k) (no := no) (ye := ye) hP hp (by omega) hk0.1 k2 (by have := B false; simp [bI] at this; omega) (by have := B true; omega) (IH true)
     simp only [bI,Bool.false_eq_true,if_false,if_true] at S0 S1
     clear IH
     have fin : ∀ s,ex lf F_spec_l6Checks_W0 (stCk m (tabT m t) P p ks (k,no,ye) s 2) = some (.exit 0,stCk m (tabT m t) P p ks (k,no,ye) s 2) := fun s => by
      have w02 : wr (2 : Int) = 2 := wr_id (by omega) (by omega)
      rw [w_spec_l6Checks_0]
      unfold stCk
      simp [F_spec_l6Checks_L0]
     by_cases n0 : nxt P.length p no
     ·rw [if_pos n0] at S0
      rw [if_neg (fun h => h n0)]
      cases hb0 : (ck m t P f no (ks.set k.toNat 0)).2 with
      | false =>
       rw [if_pos rfl]
       rw [hb0,if_neg (by simp)] at S0
       have L : ex lf F_spec_l6Checks_W0 (stCk m (tabT m t) P p ks (k,no,ye) 1 0) = some (.ret,⟨[(10,.i 0),(11,.b false)],[]⟩) := by
        rw [w_spec_l6Checks_0,S0]
       unfold stCk at L
       simp [F_spec_l6Checks,C3,fe,hc,hab,AT,pc,k0,k1,k2,hk0.1,ka,L]
      | true =>
       rw [if_neg (by simp)]
       rw [hb0,if_pos rfl] at S0
       by_cases n1 : nxt P.length p ye
       ·rw [if_pos n1] at S1
        rw [if_neg (fun h => h n1)]
        cases hb1 : (ck m t P f ye (ks.set k.toNat 1)).2 with
        | false =>
         rw [if_pos rfl]
         rw [hb1,if_neg (by simp)] at S1
         have L : ex lf F_spec_l6Checks_W0 (stCk m (tabT m t) P p ks (k,no,ye) 1 0) = some (.ret,⟨[(10,.i 0),(11,.b false)],[]⟩) := by
          rw [w_spec_l6Checks_0,S0]
          simp only
          rw [w_spec_l6Checks_0,show (0 : Int) + 1 = 1 from rfl,S1]
         unfold stCk at L
         simp [F_spec_l6Checks,C3,fe,hc,hab,AT,pc,k0,k1,k2,hk0.1,ka,L]
        | true =>
         rw [if_neg (by simp)]
         rw [hb1,if_pos rfl] at S1
         have L : ex lf F_spec_l6Checks_W0 (stCk m (tabT m t) P p ks (k,no,ye) 1 0) = some (.exit 0,stCk m (tabT m t) P p ks (k,no,ye) (1 + (ck m t P f no (ks.set k.toNat 0)).1 + (ck m t P f ye (ks.set k.toNat 1)).1) 2) := by
          rw [w_spec_l6Checks_0,S0]
          simp only
          rw [w_spec_l6Checks_0,show (0 : Int) + 1 = 1 from rfl,S1]
          simp only
          rw [show (1 : Int) + 1 = 2 from rfl,fin]
         generalize 1 + (ck m t P f no (ks.set k.toNat 0)).1 + (ck m t P f ye (ks.set k.toNat 1)).1 = r at *
         unfold stCk at L
         simp [F_spec_l6Checks,C3,fe,hc,hab,AT,pc,k0,k1,k2,hk0.1,ka,L]
       ·rw [if_neg n1] at S1
        rw [if_pos n1]
        have L : ex lf F_spec_l6Checks_W0 (stCk m (tabT m t) P p ks (k,no,ye) 1 0) = some (.ret,⟨[(10,.i 0),(11,.b false)],[]⟩) := by
         rw [w_spec_l6Checks_0,S0]
         simp only
         rw [w_spec_l6Checks_0,show (0 : Int) + 1 = 1 from rfl,S1]
        unfold stCk at L
        simp [F_spec_l6Checks,C3,fe,hc,hab,AT,pc,k0,k1,k2,hk0.1,ka,L]
     ·rw [if_neg n0] at S0
      rw [if_pos n0]
      have L : ex lf F_spec_l6Checks_W0 (stCk m (tabT m t) P p ks (k,no,ye) 1 0) = some (.ret,⟨[(10,.i 0),(11,.b false)],[]⟩) := by
       rw [w_spec_l6Checks_0,S0]
      unfold stCk at L
      simp [F_spec_l6Checks,C3,fe,hc,hab,AT,pc,k0,k1,k2,hk0.1,ka,L]
    ·rw [if_pos (.inr hu)]
     have hu' : ks[k.toNat] ≠ -1 := fun e => hu (by rw [List.getElem?_eq_getElem kn,e])
     have hu2 : (ks[k.toNat] != -1) = true := bne_iff_ne.2 hu'
     simp [F_spec_l6Checks,C3,fe,hc,hab,AT,pc,k0,k1,k2,hk0.1,ka,hu2]
end
section
attribute [local simp] lend_e3 adopt_e3 new_e3 al_e3 lt_e3
theorem at3 {ts : List C3} {i : Nat} (hi : i < ts.length) : ∃ t,ts[i]? = some t ∧ atI (ts.map e3) i = some (.st [.i t.1,.i t.2.1,.i t.2.2]) ∧ ts.take (i + 1) = ts.take i ++ [t] := by
 refine ⟨ts[i],List.getElem?_eq_getElem hi,?_,List.take_succ_eq_append_getElem hi⟩
 exact at_e3 (List.getElem?_eq_getElem hi)
theorem c_toChoice (t : C3) : call lf n_laws_toChoice [e3 t] = some (e3 t,[]) := by
 rw [call_k lf n_laws_toChoice _ (F := F_laws_toChoice) rfl rfl]
 simp [F_laws_toChoice,e3]
theorem c_szChoiceS (ts : List C3) (n : Int) (h0 : 0 ≤ n) (h1 : n ≤ 1048576) (hb : (ts.length : Int) ≤ 9223372036854775807) : call lf n_laws_szChoiceS [.sl 0 (ts.map e3),.i n] = some (.i (if n < ts.length then -1 else n - ts.length),[]) := by
 rw [call_k lf n_laws_szChoiceS _ (F := F_laws_szChoiceS) rfl rfl]
 have w : wr (n - ts.length) = n - ts.length := wr_id (by omega) (by omega)
 by_cases h : n < ts.length
 ·have h' : n - ts.length < 0 := by omega
  simp [F_laws_szChoiceS,w,h,h']
 ·have h' : ¬ n - ts.length < 0 := by omega
  simp [F_laws_szChoiceS,w,h,h']
def cz3 (ts : List C3) (i : Nat) : List DV := (ts.take i).map e3 ++ List.replicate (ts.length - i) (.st [.i 0,.i 0,.i 0])
theorem cz3_len {ts : List C3} {i : Nat} (hi : i ≤ ts.length) : (cz3 ts i).length = ts.length := by simp [cz3]; omega
theorem cz3_set {ts : List C3} {i : Nat} {t : C3} (hi : i < ts.length) (h : ts.take (i + 1) = ts.take i ++ [t]) : (cz3 ts i).set i (.st [.i t.1,.i t.2.1,.i t.2.2]) = cz3 ts (i + 1) := by
 have : ((ts.take i).map e3).length = i := by simp; omega
 unfold cz3
 rw [List.set_append_right _ _ (by omega),this,Nat.sub_self,h,show ts.length - i = (ts.length - (i + 1)) + 1 by omega,List.replicate_succ,List.set_cons_zero,List.map_append,List.append_assoc]
 rfl
theorem cz3_get {ts : List C3} {i : Nat} (hi : i < ts.length) : atN (cz3 ts i) i = some (.st [.i 0,.i 0,.i 0]) := by
 show (cz3 ts i)[i]? = _
 have : ((ts.take i).map e3).length = i := by simp; omega
 unfold cz3
 rw [List.getElem?_append_right (by omega),this,Nat.sub_self,List.getElem?_replicate]
 simp; omega
theorem cz3_zero (ts : List C3) : cz3 ts 0 = List.replicate ts.length (.st [.i 0,.i 0,.i 0]) := by simp [cz3]
theorem cz3_all (ts : List C3) : cz3 ts ts.length = ts.map e3 := by simp [cz3]
theorem c_toChoiceS (ts : List C3) (hb : (ts.length : Int) ≤ 1048576) : call lf n_laws_toChoiceS [.sl 0 (ts.map e3)] = some (.fr 3 (ts.map e3),[]) := by
 rw [call_k lf n_laws_toChoiceS _ (F := F_laws_toChoiceS) rfl rfl]
 have L : ex lf F_laws_toChoiceS_W0 ⟨[(0,.sl 0 (ts.map e3)),(3,.own 3608 ts.length 0 ts.length),(4,.i 0)],[(3608,cz3 ts 0)]⟩ =
   some (.exit 0,⟨[(0,.sl 0 (ts.map e3)),(3,.own 3608 ts.length 0 ts.length),(4,.i ts.length)],[(3608,cz3 ts ts.length)]⟩) := by
  refine loop_count ts.length (fun i => ⟨[(0,.sl 0 (ts.map e3)),(3,.own 3608 ts.length 0 ts.length),(4,.i i)],[(3608,cz3 ts i)]⟩) (fun i hi => ?_) ?_ (by simp)
  ·obtain ⟨t,q1,q3,q4⟩ := at3 hi
   have w1 : wr ((i : Int) + 1) = (i : Int) + 1 := wr_id (by omega) (by omega)
   have c1 := cz3_len (ts := ts) (i := i) (by omega)
   have c2 := cz3_get hi
   have c3 := cz3_set hi q4
   have C := c_toChoice t
   simp only [e3] at C
   simp [F_laws_toChoiceS_L0,hi,q3,w1,c1,c2,c3,C]
  ·simp [F_laws_toChoiceS_L0]
 have b1 : (ts.length : Int) ≤ bound := by unfold bound; omega
 rw [cz3_zero,cz3_all] at L
 simp [F_laws_toChoiceS,b1,L]
theorem c_eqChoice (t : C3) : call lf n_laws_eqChoice [e3 t,e3 t] = some (.b true,[]) := by
 rw [call_k lf n_laws_eqChoice _ (F := F_laws_eqChoice) rfl rfl]
 simp [F_laws_eqChoice,e3]
theorem c_eqChoiceS_self (aS : List C3) (ha : (aS.length : Int) ≤ 1048576) : call lf n_laws_eqChoiceS [.sl 0 (aS.map e3),.sl 0 (aS.map e3)] = some (.b true,[]) := by
 rw [call_k lf n_laws_eqChoiceS _ (F := F_laws_eqChoiceS) rfl rfl]
 have L : ex lf F_laws_eqChoiceS_W0 ⟨[(0,.sl 0 (aS.map e3)),(1,.sl 0 (aS.map e3)),(5,.i 0)],[]⟩ = some (.exit 0,⟨[(0,.sl 0 (aS.map e3)),(1,.sl 0 (aS.map e3)),(5,.i aS.length)],[]⟩) := by
  refine loop_count aS.length (fun i => ⟨[(0,.sl 0 (aS.map e3)),(1,.sl 0 (aS.map e3)),(5,.i i)],[]⟩) (fun i hi => ?_) ?_ (by simp)
  ·obtain ⟨t,q1,q3,q4⟩ := at3 hi
   have w1 : wr ((i : Int) + 1) = (i : Int) + 1 := wr_id (by omega) (by omega)
   have C := c_eqChoice t
   simp only [e3] at C
   simp [F_laws_eqChoiceS_L0,hi,q3,w1,C]
  ·simp [F_laws_eqChoiceS_L0]
 simp [F_laws_eqChoiceS,L]
def mk3 (k : Int) (n : Nat) : List DV := (List.range n).map fun (j : Nat) => DV.st [.i (k + 3 * (j : Int)),.i (k + 3 * (j : Int) + 1),.i (k + 3 * (j : Int) + 2)]
theorem mk3_len (k : Int) (n : Nat) : (mk3 k n).length = n := by simp [mk3]
theorem mk3_succ (k : Int) (n : Nat) : mk3 k (n + 1) = mk3 k n ++ [.st [.i (k + 3 * n),.i (k + 3 * n + 1),.i (k + 3 * n + 2)]] := by simp [mk3,List.range_succ]
theorem mk3_map (k : Int) (n : Nat) : ∃ u : List C3,mk3 k n = u.map e3 ∧ u.length = n := ⟨(List.range n).map fun (j : Nat) => (k + 3 * (j : Int),k + 3 * (j : Int) + 1,k + 3 * (j : Int) + 2),by simp [mk3,e3],by simp⟩
set_option maxHeartbeats 4000000 in
theorem c_markChoiceS (xs : List C3) (k : Int) (k0 : 0 ≤ k) (k1 : k ≤ 1000000000) (hl : xs.length ≤ 1048576) : call lf n_laws_markChoiceS [.fr 3 (xs.map e3),.i k] = some (.i (k + 3 * xs.length),[.fr 3 (mk3 k xs.length)]) := by
 rw [call_k lf n_laws_markChoiceS _ (F := F_laws_markChoiceS) rfl rfl]
 have L := loop_count (lf := lf) (L := F_laws_markChoiceS_L0) xs.length (fun i => ⟨[(0,.own 31 xs.length 0 xs.length),(1,.i (k + 3 * i)),(5,.i i)],[(31,mk3 k i ++ (xs.map e3).drop i)]⟩) (x := .exit 0) (R := ⟨[(0,.own 31 xs.length 0 xs.length),(1,.i (k + 3 * xs.length)),(5,.i xs.length)],[(31,mk3 k xs.length ++ (xs.map e3).drop xs.length)]⟩) (fun i hi => by
  have w1 : wr ((i : Int) + 1) = (i : Int) + 1 := wr_id (by omega) (by omega)
  have w2 : wr (k + 3 * i + 1) = k + 3 * i + 1 := wr_id (by omega) (by omega)
  have w3 : wr (k + 3 * i + 1 + 1) = k + 3 * i + 2 := by rw [wr_id (by omega) (by omega)]; omega
  have w4 : wr (k + 3 * i + 2 + 1) = k + 3 * (i + 1 : Nat) := by rw [wr_id (by omega) (by omega)]; omega
  have hi' : (i : Int) < xs.length := by omega
  have e := split_at (es := xs.map e3) (i := i) (by simpa using hi)
  rw [List.getElem_map] at e
  rw [mk3_succ,e]
  have hA := mk3_len k i
  have lB : (List.drop (i + 1) (xs.map e3)).length = xs.length - (i + 1) := by simp
  generalize xs[i] = x at *
  generalize List.drop (i + 1) (xs.map e3) = B at *
  generalize mk3 k i = A at *
  have q1 := mid_at (B := B) hA
  have q2 := mid_set (B := B) hA
  have q3 : ∀ x : DV,(A ++ x :: B).length = xs.length := fun x => by simp [hA,lB]; omega
  rw [show A ++ [DV.st [DV.i (k + 3 * ↑i),DV.i (k + 3 * ↑i + 1),DV.i (k + 3 * ↑i + 2)]] ++ B = A ++ DV.st [DV.i (k + 3 * ↑i),DV.i (k + 3 * ↑i + 1),DV.i (k + 3 * ↑i + 2)] :: B by simp]
  have q4 : ∀ a b c : DV,1 ≤ [a,b,c].length := fun a b c => by simp
  have q5 : ∀ a b c : DV,2 ≤ [a,b,c].length := fun a b c => by simp
  have q6 : ∀ a b c : DV,3 ≤ [a,b,c].length := fun a b c => by simp
  simp [F_laws_markChoiceS_L0,e3,hi,hi',w1,w2,w3,w4,q1,q2,q3,q4,q5,q6,-List.length_append,-List.length_cons]) (by
  have lm := mk3_len k xs.length
  simp [F_laws_markChoiceS_L0,lm]) (by simp)
 have z : mk3 k 0 ++ (xs.map e3).drop 0 = xs.map e3 := by simp [mk3]
 rw [z] at L
 have zn : mk3 k xs.length ++ (xs.map e3).drop xs.length = mk3 k xs.length := by simp
 rw [zn] at L
 have L' : ex lf F_laws_markChoiceS_W0 ⟨[(0,.own 31 xs.length 0 xs.length),(1,.i k),(5,.i 0)],[(31,xs.map e3)]⟩ = some (.exit 0,⟨[(0,.own 31 xs.length 0 xs.length),(1,.i (k + 3 * xs.length)),(5,.i xs.length)],[(31,mk3 k xs.length)]⟩) := by
  have := L
  simp only [Int.natCast_zero,Int.mul_zero,Int.add_zero] at this
  exact this
 have lm := mk3_len k xs.length
 simp [F_laws_markChoiceS,L',lm]
set_option maxHeartbeats 4000000 in
theorem c_heldChoiceS (n : Nat) (k : Int) (k0 : 0 ≤ k) (k1 : k ≤ 1000000000) (hl : n ≤ 1048576) : call lf n_laws_heldChoiceS [.sl 0 (mk3 k n),.i k] = some (.i (k + 3 * n),[]) := by
 rw [call_k lf n_laws_heldChoiceS _ (F := F_laws_heldChoiceS) rfl rfl]
 have lm := mk3_len k n
 have A : ∀ i,i < n → atI (mk3 k n) (i : Int) = some (.st [.i (k + 3 * i),.i (k + 3 * i + 1),.i (k + 3 * i + 2)]) := fun i hi => by simp [atI,mk3,hi]
 generalize mk3 k n = es at *
 have L := loop_count (lf := lf) (L := F_laws_heldChoiceS_L0) n (fun i => ⟨[(0,.sl 0 es),(1,.i (k + 3 * i)),(5,.i i)],[]⟩) (x := .exit 0) (R := ⟨[(0,.sl 0 es),(1,.i (k + 3 * n)),(5,.i n)],[]⟩) (fun i hi => by
  have w1 : wr ((i : Int) + 1) = (i : Int) + 1 := wr_id (by omega) (by omega)
  have w2 : wr (k + 3 * i + 1) = k + 3 * i + 1 := wr_id (by omega) (by omega)
  have w3 : wr (k + 3 * i + 1 + 1) = k + 3 * i + 2 := by rw [wr_id (by omega) (by omega)]; omega
  have w4 : wr (k + 3 * i + 2 + 1) = k + 3 * (i + 1 : Nat) := by rw [wr_id (by omega) (by omega)]; omega
  have hi' : (i : Int) < n := by omega
  have q := A i hi
  simp [F_laws_heldChoiceS_L0,hi,hi',w1,w2,w3,w4,lm,q]) (by
  simp [F_laws_heldChoiceS_L0,lm]) (by simp)
 have L' : ex lf F_laws_heldChoiceS_W0 ⟨[(0,.sl 0 es),(1,.i k),(5,.i 0)],[]⟩ = some (.exit 0,⟨[(0,.sl 0 es),(1,.i (k + 3 * n)),(5,.i n)],[]⟩) := by
  have := L
  simp only [Int.natCast_zero,Int.mul_zero,Int.add_zero] at this
  exact this
 simp [F_laws_heldChoiceS,L']
end
section
attribute [-simp] DV.cells
attribute [local simp] cells_st cells_sl cells_i cells_y cells_b cells_s cells_w
theorem i32s : Go.IntKind.i32.wrap 97 = 97 ∧ Go.IntKind.i32.wrap 98 = 98 ∧ Go.IntKind.i32.wrap 99 = 99 ∧ Go.IntKind.i32.wrap 100 = 100 ∧ Go.IntKind.i32.wrap 101 = 101 := by decide
theorem c_impl_letterOf {a : Int} (h : 0 ≤ a ∧ a < 5) : call lf n_impl_letterOf [.i a] = some (.s [(97 + a).toNat.toUInt8],[]) := by
 have c5 : a = 0 ∨ a = 1 ∨ a = 2 ∨ a = 3 ∨ a = 4 := by omega
 have v0 : wr 97 = 97 := wr_id (by omega) (by omega)
 have v1 : wr 98 = 98 := wr_id (by omega) (by omega)
 have v2 : wr 99 = 99 := wr_id (by omega) (by omega)
 have v3 : wr 100 = 100 := wr_id (by omega) (by omega)
 have v4 : wr 101 = 101 := wr_id (by omega) (by omega)
 rw [call_k lf n_impl_letterOf _ (F := F_impl_letterOf) rfl rfl]
 rcases c5 with rfl | rfl | rfl | rfl | rfl <;> simp [F_impl_letterOf,v0,v1,v2,v3,v4,i32s]
end
section
attribute [-simp] DV.cells
attribute [local simp] cells_st cells_sl cells_i cells_y cells_b cells_s cells_w
set_option maxHeartbeats 4000000 in
theorem c_impl_placeOf (c : UInt8) : call lf n_impl_placeOf [.y c.toNat] = some (.i ((c.toNat : Int) - 97),[]) := by
 have hc : c.toNat < 256 := c.toNat_lt
 have w1 : wr ((c.toNat : Int) - 97) = (c.toNat : Int) - 97 := wr_id (by omega) (by omega)
 rw [call_k lf n_impl_placeOf _ (F := F_impl_placeOf) rfl rfl]
 simp [F_impl_placeOf,w1]
end
section
/-- the value that is forced -/
theorem fcd_val {m : Nat} {t : List T} {ks : List Int} (hl : ks.length = m) (hk : ks.all kOk = true) (h : fcd m t ks = true) : ∃ b,foT m t ks = bI b ∧ (∃ s,s < 2 ^ m ∧ agB ks s = true) ∧ ∀ s,s < 2 ^ m → agB ks s = true → tv t s = b := by
 subst hl
 have hne := agB_some hk
 have F := fun b => fo_b (f := tv t) (g := agB ks) hne b
 obtain ⟨b,hb⟩ := (fcd_iff rfl hk).1 h
 refine ⟨b,?_,hne,hb⟩
 unfold foT
 rw [Int.toNat_natCast]
 exact (F b).2 hb
def dgt (v : Int) : UInt8 := if v = 1 then 49 else 48
def ltr (k : Nat) : UInt8 := UInt8.ofNat (97 + k)
def ptx (m : Nat) (t : List T) : List Int → PT → List UInt8
 | ks,.stop => [dgt (foT m t ks)]
 | ks,.ask k n y => ltr k :: 40 :: (ptx m t (ks.set k 0) n ++ 44 :: (ptx m t (ks.set k 1) y ++ [41]))
theorem ptx_len (m : Nat) (t : List T) : ∀ (x : PT) (ks : List Int),(ptx m t ks x).length = 5 * x.size + 1
 | .stop,ks => rfl
 | .ask k n y,ks => by
  simp only [ptx,List.length_cons,List.length_append,ptx_len m t n,ptx_len m t y,PT.size,List.length_nil]
  omega
/-- letters of a tree are tests -/
def ltO : PT → Prop
 | .stop => True
 | .ask k n y => k < 5 ∧ ltO n ∧ ltO y
theorem okT_lt {m : Nat} {t : List T} (h5 : m ≤ 5) : ∀ (x : PT) (ks : List Int),ks.length = m → okT m t ks x → ltO x
 | .stop,_,_,_ => trivial
 | .ask k n y,ks,hl,⟨_,h2,h3,h4⟩ => ⟨by
   have := ks_ex h2
   omega,okT_lt h5 n _ (by simpa using hl) h3,okT_lt h5 y _ (by simpa using hl) h4⟩
theorem ltr_nat {k : Nat} (h : k < 5) : (ltr k).toNat = 97 + k := by
 unfold ltr
 rw [UInt8.toNat_ofNat']
 omega
def rdP : Nat → Nat → List UInt8 → Option (PT × List UInt8)
 | 0,_,_ => none
 | f + 1,c,s => match s with
  | [] => none
  | b :: r =>
   if b = 48 ∨ b = 49 then some (.stop,r)
   else if b < 97 ∨ 101 < b ∨ r.head? ≠ some 40 ∨ 31 ≤ c then none
   else match rdP f (c + 1) r.tail with
    | none => none
    | some (n,r2) => if r2.head? ≠ some 44 then none else match rdP f (c + 1 + n.size) r2.tail with
     | none => none
     | some (y,r4) => if r4.head? ≠ some 41 then none else some (.ask (b.toNat - 97) n y,r4.tail)
theorem dgt_or (v : Int) : dgt v = 48 ∨ dgt v = 49 := by
 unfold dgt
 split
 ·exact .inr rfl
 ·exact .inl rfl
theorem ltr_no {k : Nat} (h : k < 5) : ¬ (ltr k = 48 ∨ ltr k = 49) ∧ ¬ (ltr k < 97) ∧ ¬ (101 < ltr k) := by
 have e := ltr_nat h
 refine ⟨?_,?_,?_⟩
 ·rintro (q | q)
  ·rw [q] at e
   have : (48 : UInt8).toNat = 48 := rfl
   omega
  ·rw [q] at e
   have : (49 : UInt8).toNat = 49 := rfl
   omega
 ·intro q
  have q := UInt8.lt_iff_toNat_lt.1 q
  have : (97 : UInt8).toNat = 97 := rfl
  omega
 ·intro q
  have q := UInt8.lt_iff_toNat_lt.1 q
  have : (101 : UInt8).toNat = 101 := rfl
  omega
/-- what is written is read -/
theorem rd_ptx {m : Nat} {t : List T} : ∀ (x : PT) (ks : List Int) (f c : Nat) (r : List UInt8),ltO x → x.size < f → c + x.size ≤ 31 → rdP f c (ptx m t ks x ++ r) = some (x,r)
 | .stop,ks,0,c,r,_,h,_ => by omega
 | .stop,ks,f + 1,c,r,_,h,_ => by
  show rdP (f + 1) c (dgt (foT m t ks) :: r) = _
  simp only [rdP]
  rw [if_pos (dgt_or _)]
 | .ask k n y,ks,0,c,r,_,h,_ => by omega
 | .ask k n y,ks,f + 1,c,r,⟨hk,hn,hy⟩,h,hc => by
  simp only [PT.size] at h hc
  have N := ltr_no hk
  have a := rd_ptx (m := m) (t := t) n (ks.set k 0) f (c + 1) (44 :: (ptx m t (ks.set k 1) y ++ 41 :: r)) hn (by omega) (by omega)
  have b := rd_ptx (m := m) (t := t) y (ks.set k 1) f (c + 1 + n.size) (41 :: r) hy (by omega) (by omega)
  have e : ptx m t ks (.ask k n y) ++ r = ltr k :: 40 :: (ptx m t (ks.set k 0) n ++ 44 :: (ptx m t (ks.set k 1) y ++ 41 :: r)) := by
   simp [ptx]
  rw [e]
  simp only [rdP]
  rw [if_neg N.1,if_neg (by
   rintro (q | q | q | q)
   ·exact N.2.1 q
   ·exact N.2.2 q
   ·exact q rfl
   ·omega),List.tail_cons,a]
  simp only [List.head?_cons,ne_eq,not_true,if_false,List.tail_cons,b]
  rw [ltr_nat hk,Nat.add_sub_cancel_left]
/-- what is read is shorter,and its choices are few -/
theorem rd_few : ∀ (f c : Nat) (s : List UInt8) (x : PT) (r : List UInt8),c ≤ 31 → rdP f c s = some (x,r) → c + x.size ≤ 31 ∧ ltO x ∧ r.length + 5 * x.size + 1 = s.length
 | 0,_,_,_,_,_,h => by cases h
 | f + 1,c,[],x,r,_,h => by simp [rdP] at h
 | f + 1,c,b :: s,x,r,hc,h => by
  simp only [rdP] at h
  by_cases h1 : b = 48 ∨ b = 49
  ·rw [if_pos h1] at h
   simp only [Option.some.injEq,Prod.mk.injEq] at h
   obtain ⟨rfl,rfl⟩ := h
   exact ⟨by simpa [PT.size] using hc,trivial,by simp [PT.size]⟩
  rw [if_neg h1] at h
  by_cases h2 : b < 97 ∨ 101 < b ∨ s.head? ≠ some 40 ∨ 31 ≤ c
  ·rw [if_pos h2] at h; cases h
  rw [if_neg h2] at h
  simp only [not_or] at h2
  cases e : rdP f (c + 1) s.tail with
  | none => rw [e] at h; cases h
  | some q =>
   obtain ⟨n,r2⟩ := q
   rw [e] at h
   simp only at h
   obtain ⟨i1,i2,i3⟩ := rd_few f (c + 1) s.tail n r2 (by omega) e
   by_cases h3 : r2.head? ≠ some 44
   ·rw [if_pos h3] at h; cases h
   rw [if_neg h3] at h
   cases e' : rdP f (c + 1 + n.size) r2.tail with
   | none => rw [e'] at h; cases h
   | some q =>
    obtain ⟨y,r4⟩ := q
    rw [e'] at h
    simp only at h
    obtain ⟨j1,j2,j3⟩ := rd_few f (c + 1 + n.size) r2.tail y r4 i1 e'
    by_cases h4 : r4.head? ≠ some 41
    ·rw [if_pos h4] at h; cases h
    rw [if_neg h4] at h
    simp only [Option.some.injEq,Prod.mk.injEq] at h
    obtain ⟨rfl,rfl⟩ := h
    have T : ∀ {l : List UInt8} {v : UInt8},¬ l.head? ≠ some v → l.tail.length + 1 = l.length := fun {l v} q => by
     cases l with
     | nil => simp at q
     | cons a l => rfl
    have t1 := T h2.2.2.1
    have t2 := T h3
    have t3 := T h4
    refine ⟨by simp only [PT.size]; omega,⟨?_,i2,j2⟩,?_⟩
    ·have g1 : ¬ (b.toNat < 97) := fun q => h2.1 (UInt8.lt_iff_toNat_lt.2 q)
     have g2 : ¬ (101 < b.toNat) := fun q => h2.2.1 (UInt8.lt_iff_toNat_lt.2 q)
     omega
    ·simp only [PT.size,List.length_cons]
     omega
/-- the plan that a text is of -/
def rpl (m : Nat) (t : List T) (s : List UInt8) : Option PT :=
 if 400 < s.length then none else match rdP (s.length + 1) 0 s with
 | some (x,[]) => if pkOk m t (ser x 0) = true ∧ ptx m t (non m) x = s then some x else none
 | _ => none
theorem rpl_of {m : Nat} {t : List T} (h5 : m ≤ 5) (ht : tmOk m t = true) {x : PT} (h : okT m t (non m) x) : rpl m t (ptx m t (non m) x) = some x := by
 have z := okT_size h5 h
 have l := okT_lt h5 x _ (non_len _) h
 have n := ptx_len m t x (non m)
 have r := rd_ptx (m := m) (t := t) x (non m) ((ptx m t (non m) x).length + 1) 0 [] l (by omega) (by omega)
 rw [List.append_nil] at r
 unfold rpl
 rw [if_neg (by omega),r]
 simp only
 rw [if_pos ⟨pk_iff.2 ⟨ht,lab x 0,ser_pl h5 h⟩,trivial⟩]
/-- a row that is written down in the order of its letters is a plan just if its tree is one -/
theorem pk_ser {m : Nat} {t : List T} (h5 : m ≤ 5) {x : PT} : pkOk m t (ser x 0) = true ↔ tmOk m t = true ∧ okT m t (non m) x := by
 rw [pk_iff]
 constructor
 ·rintro ⟨h,L,hL⟩
  have e := enc_ser x [] [] 0 rfl
  rw [List.nil_append,List.append_nil] at e
  have r : rot (ser x 0) = rt x 0 := by cases x <;> simp [rot,ser,rt]
  have q := hL.e
  rw [r] at q
  have : L = lab x 0 := enc_one q e
  subst this
  have := hL.ok
  rw [lab_er] at this
  exact ⟨h,this⟩
 ·rintro ⟨h,hx⟩
  exact ⟨h,lab x 0,ser_pl h5 hx⟩
theorem rpl_to {m : Nat} {t : List T} (h5 : m ≤ 5) {s : List UInt8} {x : PT} (h : rpl m t s = some x) : tmOk m t = true ∧ okT m t (non m) x ∧ ptx m t (non m) x = s := by
 unfold rpl at h
 split at h
 ·cases h
 split at h
 ·split at h
  ·next q =>
   cases h
   have := (pk_ser h5).1 q.1
   exact ⟨this.1,this.2,q.2⟩
  ·cases h
 ·cases h
end
section
/-- a choice at a place,and what lies behind its answers -/
def layI (a : Int) (place : Nat) (N Y : List C3) : List C3 := (a,(if N = [] then -1 else (place : Int) + 1),(if Y = [] then -1 else (place : Int) + 1 + N.length)) :: (N ++ Y)
def rdC : Nat → Nat → List UInt8 → Option (List C3 × List UInt8)
 | 0,_,_ => none
 | f + 1,c,s => match s with
  | [] => none
  | b :: r =>
   if b = 48 ∨ b = 49 then some ([],r)
   else if r.head? ≠ some 40 then none
   else match rdC f (c + 1) r.tail with
    | none => none
    | some (n,r2) => if r2.head? ≠ some 44 then none else match rdC f (c + 1 + n.length) r2.tail with
     | none => none
     | some (y,r4) => if r4.head? ≠ some 41 then none else some (layI ((b.toNat : Int) - 97) c n y,r4.tail)
theorem lay_ser' (k place : Nat) (n y : PT) : layI k place (ser n (place + 1)) (ser y (place + 1 + n.size)) = ser (.ask k n y) place := by
 unfold layI
 simp only [ser]
 congr 2
 ·congr 1
  ·cases n with
   | stop => simp [ser,rt]
   | ask a b c => simp [ser,rt]
  ·cases y with
   | stop => simp [ser,rt]
   | ask a b c => simp [ser,rt,ser_len]
/-- what is written is read -/
theorem rdC_ptx {m : Nat} {t : List T} : ∀ (x : PT) (ks : List Int) (f c : Nat) (r : List UInt8),ltO x → x.size < f → rdC f c (ptx m t ks x ++ r) = some (ser x c,r)
 | .stop,ks,0,c,r,_,h => by omega
 | .stop,ks,f + 1,c,r,_,h => by
  show rdC (f + 1) c (dgt (foT m t ks) :: r) = _
  simp only [rdC]
  rw [if_pos (dgt_or _)]
  rfl
 | .ask k n y,ks,0,c,r,_,h => by omega
 | .ask k n y,ks,f + 1,c,r,⟨hk,hn,hy⟩,h => by
  simp only [PT.size] at h
  have N := ltr_no hk
  have a := rdC_ptx (m := m) (t := t) n (ks.set k 0) f (c + 1) (44 :: (ptx m t (ks.set k 1) y ++ 41 :: r)) hn (by omega)
  have b := rdC_ptx (m := m) (t := t) y (ks.set k 1) f (c + 1 + n.size) (41 :: r) hy (by omega)
  have e : ptx m t ks (.ask k n y) ++ r = ltr k :: 40 :: (ptx m t (ks.set k 0) n ++ 44 :: (ptx m t (ks.set k 1) y ++ 41 :: r)) := by
   simp [ptx]
  rw [e]
  simp only [rdC]
  rw [if_neg N.1,if_neg (fun q => q rfl),List.tail_cons,a]
  simp only [List.head?_cons,ne_eq,not_true,if_false,List.tail_cons,ser_len,b]
  rw [ltr_nat hk,show (((97 + k : Nat) : Int) - 97) = (k : Int) by omega,lay_ser']
/-- what is read is shorter,and its choices are few -/
theorem rdC_few : ∀ (f c : Nat) (s : List UInt8) (P : List C3) (r : List UInt8),rdC f c s = some (P,r) → P.length + r.length + 1 ≤ s.length
 | 0,_,_,_,_,h => by cases h
 | f + 1,c,[],P,r,h => by simp [rdC] at h
 | f + 1,c,b :: s,P,r,h => by
  simp only [rdC] at h
  by_cases h1 : b = 48 ∨ b = 49
  ·rw [if_pos h1] at h
   simp only [Option.some.injEq,Prod.mk.injEq] at h
   obtain ⟨rfl,rfl⟩ := h
   simp
  rw [if_neg h1] at h
  by_cases h2 : s.head? ≠ some 40
  ·rw [if_pos h2] at h; cases h
  rw [if_neg h2] at h
  cases e : rdC f (c + 1) s.tail with
  | none => rw [e] at h; cases h
  | some q =>
   obtain ⟨n,r2⟩ := q
   rw [e] at h
   simp only at h
   have i3 := rdC_few f (c + 1) s.tail n r2 e
   by_cases h3 : r2.head? ≠ some 44
   ·rw [if_pos h3] at h; cases h
   rw [if_neg h3] at h
   cases e' : rdC f (c + 1 + n.length) r2.tail with
   | none => rw [e'] at h; cases h
   | some q =>
    obtain ⟨y,r4⟩ := q
    rw [e'] at h
    simp only at h
    have j3 := rdC_few f (c + 1 + n.length) r2.tail y r4 e'
    by_cases h4 : r4.head? ≠ some 41
    ·rw [if_pos h4] at h; cases h
    rw [if_neg h4] at h
    simp only [Option.some.injEq,Prod.mk.injEq] at h
    obtain ⟨rfl,rfl⟩ := h
    have T : ∀ {l : List UInt8} {v : UInt8},¬ l.head? ≠ some v → l.tail.length + 1 = l.length := fun {l v} q => by
     cases l with
     | nil => simp at q
     | cons a l => rfl
    have t1 := T h2
    have t2 := T h3
    have t3 := T h4
    unfold layI
    simp only [List.length_cons,List.length_append]
    omega
end
section
attribute [-simp] DV.cells
attribute [local simp] sliceD cells_st cells_sl cells_i cells_y cells_b cells_s cells_w
attribute [local simp] lend_e3 adopt_e3 new_e3 al_e3 lt_e3
def seeS : List Bool → List Int → Option (List Bool)
 | s,[] => some s
 | s,a :: r => if 0 ≤ a ∧ s[a.toNat]? = some false then seeS (s.set a.toNat true) r else none
theorem seeS_app : ∀ (p q : List Int) (s : List Bool),seeS s (p ++ q) = (seeS s p).bind fun s' => seeS s' q
 | [],q,s => rfl
 | a :: p,q,s => by
  simp only [List.cons_append,seeS]
  split
  ·exact seeS_app p q _
  ·rfl
theorem seeS_len : ∀ (p : List Int) (s s' : List Bool),seeS s p = some s' → s'.length = s.length
 | [],s,s',h => by simp only [seeS,Option.some.injEq] at h; rw [h]
 | a :: p,s,s',h => by
  simp only [seeS] at h
  split at h
  ·rw [seeS_len p _ _ h,List.length_set]
  ·cases h
theorem seeS_iff : ∀ (p : List Int) (s : List Bool),(seeS s p).isSome = true ↔ p.Nodup ∧ ∀ a ∈ p,0 ≤ a ∧ s[a.toNat]? = some false
 | [],s => by simp [seeS]
 | a :: p,s => by
  simp only [seeS]
  split
  ·rename_i h
   have hl := (List.getElem?_eq_some_iff.1 h.2).1
   rw [seeS_iff p,List.nodup_cons]
   constructor
   ·rintro ⟨h1,h2⟩
    refine ⟨⟨fun ha => ?_,h1⟩,fun b hb => ?_⟩
    ·have := (h2 a ha).2
     rw [List.getElem?_set_self hl] at this
     simp at this
    ·rcases List.mem_cons.1 hb with rfl | hb
     ·exact h
     ·have h3 := h2 b hb
      refine ⟨h3.1,?_⟩
      by_cases e : a.toNat = b.toNat
      ·have := h3.2
       rw [← e,List.getElem?_set_self hl] at this
       simp at this
      ·rw [List.getElem?_set_ne e] at h3
       exact h3.2
   ·rintro ⟨⟨h0,h1⟩,h2⟩
    refine ⟨h1,fun b hb => ?_⟩
    have h3 := h2 b (List.mem_cons_of_mem _ hb)
    refine ⟨h3.1,?_⟩
    have hh := h.1
    have hb0 := h3.1
    have : a.toNat ≠ b.toNat := fun e => h0 (by rw [show a = b by omega]; exact hb)
    rw [List.getElem?_set_ne this]
    exact h3.2
  ·rename_i h
   constructor
   ·intro h'; cases h'
   ·rintro ⟨_,h2⟩
    exact absurd (h2 a List.mem_cons_self) h
theorem seeS_onc (P : List C3) : (seeS (List.replicate P.length false) (rfs P)).isSome = oncB P := by
 rw [Bool.eq_iff_iff,seeS_iff,oncB_iff]
 unfold oncP
 constructor
 ·rintro ⟨h1,h2⟩
  refine ⟨h1,fun a ha => ?_⟩
  have := h2 a ha
  have hl := (List.getElem?_eq_some_iff.1 this.2).1
  rw [List.length_replicate] at hl
  omega
 ·rintro ⟨h1,h2⟩
  refine ⟨h1,fun a ha => ?_⟩
  have := h2 a ha
  refine ⟨this.1,?_⟩
  rw [List.getElem?_replicate,if_pos (by omega)]
def stOn (P : List C3) (k : Nat) (s : List Bool) (i : Int) : LS := ⟨[(0,.sl 0 (P.map e3)),(3,.own 4616 P.length 0 P.length),(4,.i k),(5,.i i)],[(4616,s.map .b)]⟩
def stOo (P : List C3) (k : Nat) (s : List Bool) : LS := ⟨[(0,.sl 0 (P.map e3)),(3,.own 4616 P.length 0 P.length),(4,.i k)],[(4616,s.map .b)]⟩
def rf1 (a : Int) : List Int := if a = -1 then [] else [a]
set_option maxHeartbeats 4000000 in
theorem once_step {P : List C3} (hN : P.length ≤ 40) {k : Nat} {no ye : Int} {q : Int} (hk : P[k]? = some (q,no,ye)) {s : List Bool} (hs : s.length = P.length) (b : Bool) :
  ex lf F_spec_l6Once_L1 (stOn P k s (bI b)) = match seeS s (rf1 (if b then ye else no)) with
   | some s' => some (.normal,stOn P k s' (bI b + 1))
   | none => some (.ret,⟨[(2,.b false)],[]⟩) := by
 have AT := at_e3 hk
 have kl := (List.getElem?_eq_some_iff.1 hk).1
 have kl' : (k : Int) < P.length := by omega
 have w3 : wr ((P.length : Int) - 1) = (P.length : Int) - 1 := wr_id (by omega) (by omega)
 have w0 : wr (1 : Int) = 1 := wr_id (by omega) (by omega)
 have w02 : wr (2 : Int) = 2 := wr_id (by omega) (by omega)
 have hq' : (P.map e3).length = P.length := by simp
 unfold stOn
 generalize P.length = N at *
 generalize P.map e3 = E at *
 have core : ∀ (v : Int),v ≠ -1 → (v != -1) = true ∧ (v == -1) = false := fun v h => ⟨bne_iff_ne.2 h,beq_eq_false_iff_ne.2 h⟩
 have tk : List.take N (s.map DV.b) = s.map .b := List.take_of_length_le (by simp [hs])
 cases b with
 | false =>
  simp only [bI,Bool.false_eq_true,if_false,rf1]
  by_cases e : no = -1
  ·subst e
   rw [if_pos rfl]
   simp only [seeS]
   simp [F_spec_l6Once_L1,AT,kl',hq',w0,w02,w3]
  ·rw [if_neg e]
   obtain ⟨_,eb⟩ := core no e
   by_cases h : 0 ≤ no ∧ s[no.toNat]? = some false
   ·have hl := (List.getElem?_eq_some_iff.1 h.2).1
    have C1 := c_spec_l1In no 0 ((N : Int) - 1)
    have d : decide (0 ≤ no ∧ no ≤ (N : Int) - 1) = true := decide_eq_true ⟨h.1,by omega⟩
    rw [d] at C1
    simp only [seeS]
    rw [if_pos h]
    have A2 : atI (s.map DV.b) no = some (.b false) := by
     simp only [atI,if_pos h.1]
     show (s.map DV.b)[no.toNat]? = _
     rw [List.getElem?_map,h.2]; rfl
    have A3 : atN (s.map DV.b) no.toNat = some (.b false) := by
     show (s.map DV.b)[no.toNat]? = _
     rw [List.getElem?_map,h.2]; rfl
    have n0 : no < (N : Int) := by omega
    have h1 := h.1
    have n1 : no.toNat < N := by omega
    simp [F_spec_l6Once_L1,AT,kl',hq',w0,w02,w3,hs,tk,C1,eb,A2,A3,n0,n1,h1,List.map_set]
   ·simp only [seeS]
    rw [if_neg h]
    have C1 := c_spec_l1In no 0 ((N : Int) - 1)
    by_cases hh : 0 ≤ no ∧ no ≤ (N : Int) - 1
    ·have d : decide (0 ≤ no ∧ no ≤ (N : Int) - 1) = true := decide_eq_true hh
     rw [d] at C1
     have hl : no.toNat < s.length := by omega
     have st : s[no.toNat]? = some true := by
      rw [List.getElem?_eq_getElem hl]
      cases hv : s[no.toNat] with
      | true => rfl
      | false => exact absurd ⟨hh.1,by rw [List.getElem?_eq_getElem hl,hv]⟩ h
     have A2 : atI (s.map DV.b) no = some (.b true) := by
      simp only [atI,if_pos hh.1]
      show (s.map DV.b)[no.toNat]? = _
      rw [List.getElem?_map,st]; rfl
     have A3 : atN (s.map DV.b) no.toNat = some (.b true) := by
      show (s.map DV.b)[no.toNat]? = _
      rw [List.getElem?_map,st]; rfl
     have n0 : no < (N : Int) := by omega
     have h1 := hh.1
     have n1 : no.toNat < N := by omega
     simp [F_spec_l6Once_L1,AT,kl',hq',w0,w02,w3,hs,tk,C1,eb,A2,A3,n0,n1,h1]
    ·have d : decide (0 ≤ no ∧ no ≤ (N : Int) - 1) = false := decide_eq_false hh
     rw [d] at C1
     simp [F_spec_l6Once_L1,AT,kl',hq',w0,w02,w3,hs,tk,C1,eb]
 | true =>
  simp only [bI,if_true,rf1]
  by_cases e : ye = -1
  ·subst e
   rw [if_pos rfl]
   simp only [seeS]
   simp [F_spec_l6Once_L1,AT,kl',hq',w0,w02,w3]
  ·rw [if_neg e]
   obtain ⟨_,eb⟩ := core ye e
   by_cases h : 0 ≤ ye ∧ s[ye.toNat]? = some false
   ·have hl := (List.getElem?_eq_some_iff.1 h.2).1
    have C1 := c_spec_l1In ye 0 ((N : Int) - 1)
    have d : decide (0 ≤ ye ∧ ye ≤ (N : Int) - 1) = true := decide_eq_true ⟨h.1,by omega⟩
    rw [d] at C1
    simp only [seeS]
    rw [if_pos h]
    have A2 : atI (s.map DV.b) ye = some (.b false) := by
     simp only [atI,if_pos h.1]
     show (s.map DV.b)[ye.toNat]? = _
     rw [List.getElem?_map,h.2]; rfl
    have A3 : atN (s.map DV.b) ye.toNat = some (.b false) := by
     show (s.map DV.b)[ye.toNat]? = _
     rw [List.getElem?_map,h.2]; rfl
    have n0 : ye < (N : Int) := by omega
    have h1 := h.1
    have n1 : ye.toNat < N := by omega
    simp [F_spec_l6Once_L1,AT,kl',hq',w0,w02,w3,hs,tk,C1,eb,A2,A3,n0,n1,h1,List.map_set]
   ·simp only [seeS]
    rw [if_neg h]
    have C1 := c_spec_l1In ye 0 ((N : Int) - 1)
    by_cases hh : 0 ≤ ye ∧ ye ≤ (N : Int) - 1
    ·have d : decide (0 ≤ ye ∧ ye ≤ (N : Int) - 1) = true := decide_eq_true hh
     rw [d] at C1
     have hl : ye.toNat < s.length := by omega
     have st : s[ye.toNat]? = some true := by
      rw [List.getElem?_eq_getElem hl]
      cases hv : s[ye.toNat] with
      | true => rfl
      | false => exact absurd ⟨hh.1,by rw [List.getElem?_eq_getElem hl,hv]⟩ h
     have A2 : atI (s.map DV.b) ye = some (.b true) := by
      simp only [atI,if_pos hh.1]
      show (s.map DV.b)[ye.toNat]? = _
      rw [List.getElem?_map,st]; rfl
     have A3 : atN (s.map DV.b) ye.toNat = some (.b true) := by
      show (s.map DV.b)[ye.toNat]? = _
      rw [List.getElem?_map,st]; rfl
     have n0 : ye < (N : Int) := by omega
     have h1 := hh.1
     have n1 : ye.toNat < N := by omega
     simp [F_spec_l6Once_L1,AT,kl',hq',w0,w02,w3,hs,tk,C1,eb,A2,A3,n0,n1,h1]
    ·have d : decide (0 ≤ ye ∧ ye ≤ (N : Int) - 1) = false := decide_eq_false hh
     rw [d] at C1
     simp [F_spec_l6Once_L1,AT,kl',hq',w0,w02,w3,hs,tk,C1,eb]
theorem rfs_cons (c : C3) (r : List C3) : rfs (c :: r) = rf1 c.2.1 ++ (rf1 c.2.2 ++ rfs r) := by
 obtain ⟨q,no,ye⟩ := c
 simp only [rfs,rf1,List.append_assoc]
theorem once_inner {P : List C3} (hN : P.length ≤ 40) {k : Nat} {no ye : Int} {q : Int} (hk : P[k]? = some (q,no,ye)) {s : List Bool} (hs : s.length = P.length) :
  ex lf F_spec_l6Once_W1 (stOn P k s 0) = match seeS s (rf1 no ++ rf1 ye) with
   | some s' => some (.exit 2,stOn P k s' 2)
   | none => some (.ret,⟨[(2,.b false)],[]⟩) := by
 have S0 := once_step hN hk hs false
 simp only [bI,Bool.false_eq_true,if_false] at S0
 rw [seeS_app,w_spec_l6Once_1,S0]
 cases h0 : seeS s (rf1 no) with
 | none => rfl
 | some s' =>
  have hs' := (seeS_len _ _ _ h0).trans hs
  have S1 := once_step hN hk hs' true
  simp only [bI,if_true] at S1
  simp only [Option.bind_some]
  rw [show (0 : Int) + 1 = 1 from rfl,w_spec_l6Once_1,S1]
  cases h1 : seeS s' (rf1 ye) with
  | none => rfl
  | some s'' =>
   simp only
   have w02 : wr (2 : Int) = 2 := wr_id (by omega) (by omega)
   rw [show (1 : Int) + 1 = 2 from rfl,w_spec_l6Once_1]
   unfold stOn
   simp [F_spec_l6Once_L1]
set_option maxHeartbeats 4000000 in
theorem once_outer {P : List C3} (hN : P.length ≤ 40) : ∀ (rest : List C3) (k : Nat) (s : List Bool),P.drop k = rest → k + rest.length = P.length → s.length = P.length →
  ex lf F_spec_l6Once_W0 (stOo P k s) = match seeS s (rfs rest) with
   | some s' => some (.exit 0,stOo P P.length s')
   | none => some (.ret,⟨[(2,.b false)],[]⟩)
 | [],k,s,hd,hl,hs => by
  have e : k = P.length := by simpa using hl
  subst e
  have hq' : (P.map e3).length = P.length := by simp
  rw [w_spec_l6Once_0]
  simp only [rfs,seeS]
  unfold stOo
  generalize P.length = N at *
  generalize P.map e3 = E at *
  simp [F_spec_l6Once_L0,hq']
 | (q,no,ye) :: rest,k,s,hd,hl,hs => by
  have hk : P[k]? = some (q,no,ye) := by
   have := congrArg (fun l => l[0]?) hd
   simpa using this
  have hd' : P.drop (k + 1) = rest := by
   have := congrArg (List.drop 1) hd
   simpa using this
  simp only [List.length_cons] at hl
  have kl : (k : Int) < P.length := by omega
  have w1 : wr ((k : Int) + 1) = ((k + 1 : Nat) : Int) := by rw [wr_id (by omega) (by omega)]; omega
  have I := once_inner hN hk hs
  have ih := fun (s' : List Bool) (h : s'.length = P.length) => once_outer hN rest (k + 1) s' hd' (by omega) h
  rw [rfs_cons,← List.append_assoc,seeS_app,w_spec_l6Once_0]
  have hq' : (P.map e3).length = P.length := by simp
  unfold stOo stOn at *
  generalize P.map e3 = E at *
  cases h0 : seeS s (rf1 no ++ rf1 ye) with
  | none =>
   rw [h0] at I
   generalize P.length = N at *
   simp only [Option.bind_none]
   simp [F_spec_l6Once_L0,hq',kl,I]
  | some s' =>
   rw [h0] at I
   have ih := ih s' ((seeS_len _ _ _ h0).trans hs)
   simp only [Option.bind_some]
   rw [← ih]
   generalize P.length = N at *
   simp [F_spec_l6Once_L0,hq',kl,I,w1,-Int.natCast_add]
theorem c_spec_l6Once {P : List C3} (hN : P.length ≤ 40) : call lf n_spec_l6Once [.sl 0 (P.map e3)] = some (.b (oncB P),[]) := by
 rw [call_k lf n_spec_l6Once _ (F := F_spec_l6Once) rfl rfl]
 have O := once_outer hN P 0 (List.replicate P.length false) rfl (by omega) (by simp)
 have M := seeS_onc P
 have hq' : (P.map e3).length = P.length := by simp
 have lb : (P.length : Int) ≤ bound := by unfold bound; omega
 have lb' : P.length ≤ bound := by unfold bound; omega
 unfold stOo at O
 rw [List.map_replicate] at O
 simp only [Int.natCast_zero] at O
 generalize P.map e3 = E at *
 cases h : seeS (List.replicate P.length false) (rfs P) with
 | none =>
  rw [h] at O M
  generalize P.length = N at *
  rw [← M]
  simp [F_spec_l6Once,hq',lb,lb',O]
 | some s' =>
  rw [h] at O M
  generalize P.length = N at *
  rw [← M]
  simp [F_spec_l6Once,hq',lb,lb',O]
set_option maxHeartbeats 4000000 in
theorem c_spec_PlanOk {m : Int} {t : List T} {P : List C3} (ht : (t.length : Int) < 1099511627776) (hN : (P.length : Int) < 1099511627776) :
  call lf n_spec_PlanOk [.i m,.sl 0 (t.map e2),.sl 0 (P.map e3)] = some (.b (pkOk m t P),[]) := by
 rw [call_k lf n_spec_PlanOk _ (F := F_spec_PlanOk) rfl rfl]
 have C1 := c_spec_TermOk m t ht
 have hq' : (P.map e3).length = P.length := by simp
 have hLE := lend_e3 P
 unfold pkOk
 cases h1 : tmOk m t with
 | false => rw [h1] at C1; simp [F_spec_PlanOk,C1]
 | true =>
  rw [h1] at C1
  obtain ⟨h3,h4,_⟩ := tmOk_iff.1 h1
  by_cases hl : P.length ≤ 31
  ·have d : decide (P.length ≤ 31) = true := decide_eq_true hl
   have d' : ¬ (31 : Int) < P.length := by omega
   have C2 := c_spec_l3Table h1
   have C3 := c_spec_l4None (m := m) (by omega) (by omega)
   have e : ((m.toNat : Nat) : Int) = m := Int.toNat_of_nonneg (by omega)
   have CK := c_spec_l6Checks (m := m.toNat) (by omega) (by omega) t P (by omega) (m.toNat + 1) (rot P) (non m.toNat) (by omega) (by simp [non]) (non_all _) (by rw [uk_non]; omega) (by
    unfold rot
    by_cases h : P = []
    ·rw [if_pos h]; exact .inl rfl
    ·rw [if_neg h]
     have := List.length_pos_iff.2 h
     right; omega)
   rw [e] at CK
   have CO := c_spec_l6Once (P := P) (by omega)
   generalize ck m.toNat t P (m.toNat + 1) (rot P) (non m.toNat) = r at *
   have rt : (rot P = if (P.length : Int) = 0 then -1 else 0) := by
    unfold rot
    by_cases h : P = []
    ·subst h; rfl
    ·have := List.length_pos_iff.2 h
     rw [if_neg h,if_neg (by omega)]
   generalize P.map e3 = E at *
   cases hr : r.2 with
   | false =>
    rw [hr] at CK
    by_cases hz : (P.length : Int) = 0
    ·rw [if_pos hz] at rt
     rw [rt] at CK
     have hz' : P.length = 0 := by omega
     simp [F_spec_PlanOk,C1,C2,C3,CK,CO,hq',hz,hz',hLE]
    ·rw [if_neg hz] at rt
     rw [rt] at CK
     have hz' : ((P.length : Int) == 0) = false := beq_eq_false_iff_ne.2 hz
     simp [F_spec_PlanOk,C1,C2,C3,CK,CO,hq',hz,hz',d',hLE]
   | true =>
    rw [hr] at CK
    by_cases hz : (P.length : Int) = 0
    ·rw [if_pos hz] at rt
     rw [rt] at CK
     have hz' : P.length = 0 := by omega
     by_cases hn : r.1 = (P.length : Int)
     ·have hn2 : r.1 = 0 := by omega
      rw [hn2] at CK
      simp [F_spec_PlanOk,C1,C2,C3,CK,CO,hq',hz,hz',hn2,hLE]
     ·have hn2 : r.1 ≠ 0 := by omega
      have hn' : (r.1 == 0) = false := beq_eq_false_iff_ne.2 hn2
      simp [F_spec_PlanOk,C1,C2,C3,CK,CO,hq',hz,hz',hn',hLE]
    ·rw [if_neg hz] at rt
     rw [rt] at CK
     have hz' : ((P.length : Int) == 0) = false := beq_eq_false_iff_ne.2 hz
     by_cases hn : r.1 = (P.length : Int)
     ·have hn' : (r.1 == (P.length : Int)) = true := beq_iff_eq.2 hn
      simp [F_spec_PlanOk,C1,C2,C3,CK,CO,hq',hz,hz',hn',d',hl,hLE]
     ·have hn' : (r.1 == (P.length : Int)) = false := beq_eq_false_iff_ne.2 hn
      simp [F_spec_PlanOk,C1,C2,C3,CK,CO,hq',hz,hz',hn',d',hLE]
  ·have d : decide (P.length ≤ 31) = false := decide_eq_false hl
   have d' : (31 : Int) < P.length := by omega
   rw [d]
   generalize P.map e3 = E at *
   simp [F_spec_PlanOk,C1,hq',d']
end
section
attribute [-simp] DV.cells sliceD
attribute [local simp] cells_st cells_sl cells_i cells_y cells_b cells_s cells_w
attribute [local simp] lend_e3 adopt_e3 new_e3 al_e3 lt_e3
theorem c_spec_l1Number_b (b : Bool) : call lf n_spec_l1Number [.i (bI b)] = some (.s [dgt (bI b)],[]) := by
 rw [call_k lf n_spec_l1Number _ (F := F_spec_l1Number) rfl rfl]
 have w0 : wr (48 : Int) = 48 := wr_id (by omega) (by omega)
 have w1 : wr (49 : Int) = 49 := wr_id (by omega) (by omega)
 have x0 : UInt8.ofNat (wr8 48) = 48 := by decide
 have x1 : UInt8.ofNat (wr8 49) = 49 := by decide
 cases b <;> simp [F_spec_l1Number,bI,w0,w1,x0,x1,dgt,show max (1 : Int) 0 = 1 from rfl]
set_option maxHeartbeats 4000000 in
theorem c_spec_l11Text {m : Nat} (h1 : 1 ≤ m) (h5 : m ≤ 5) (t : List T) {P : List C3} (hP : P.length ≤ 40) : ∀ (L : LT) (a : Int) (ks : List Int),ks.length = m → ks.all kOk = true → enc P a L → okT m t ks L.er → L.size ≤ 40 →
  call lf n_spec_l11Text [.i m,.i (tabT m t),.sl 0 (P.map e3),.i a,.sl 0 (ks.map .i)] = some (.s (ptx m t ks L.er),[])
 | .stop,a,ks,hl,hk,he,ho,_ => by
  have he : a = -1 := he
  subst he
  have C3 := c_spec_l3Forced (m := (m : Int)) (by omega) (by omega) ks (by omega) (tabT m t) (by
   obtain ⟨s,q1,q2⟩ := agB_some hk
   exact ⟨s,by rw [Int.toNat_natCast,← hl]; exact q1,q2⟩)
  rw [foT_tab (by omega) (by omega)] at C3
  obtain ⟨b,e,_⟩ := fcd_val hl hk ho
  rw [e] at C3
  have C1 := c_spec_l1Number_b b
  rw [call_k lf n_spec_l11Text _ (F := F_spec_l11Text) rfl rfl]
  simp only [LT.er,ptx,e]
  simp [F_spec_l11Text,C3,C1]
 | .ask p k n y,a,ks,hl,hk,⟨e,no,ye,g1,g2,g3,g4,g5⟩,⟨o1,o2,o3,o4⟩,hz => by
  subst e
  simp only [LT.size] at hz
  have G0 := c_spec_l11Text h1 h5 t hP n no (ks.set k (bI false)) (by simpa using hl) (kOk_set hk k false) g4 (by rw [bI_0]; exact o3) (by omega)
  have G1 := c_spec_l11Text h1 h5 t hP y ye (ks.set k (bI true)) (by simpa using hl) (kOk_set hk k true) g5 (by rw [bI_1]; exact o4) (by omega)
  rw [bI_0] at G0
  rw [bI_1] at G1
  rw [List.map_set] at G0 G1
  have kk : k < ks.length := (List.getElem?_eq_some_iff.1 o2).1
  have kk' : (k : Int) < ks.length := by omega
  have pp : p < P.length := (List.getElem?_eq_some_iff.1 g1).1
  have pc : (p : Int) < P.length := by omega
  have AT := at_e3 g1
  have t0 : List.take ks.length ((ks.map DV.i).set k (.i 0)) = (ks.map .i).set k (.i 0) := List.take_of_length_le (by simp)
  have t1 : List.take ks.length ((ks.map DV.i).set k (.i 1)) = (ks.map .i).set k (.i 1) := List.take_of_length_le (by simp)
  have lb : ks.length ≤ bound := by unfold bound; omega
  have pn : ((p : Int) == -1) = false := beq_eq_false_iff_ne.2 (by omega)
  have l0 := ptx_len m t n.er (ks.set k 0)
  have l1 := ptx_len m t y.er (ks.set k 1)
  rw [er_size] at l0 l1
  obtain ⟨u,atk⟩ : ∃ u : Int,atN (ks.map DV.i) k = some (.i u) := ⟨ks[k],by show (ks.map DV.i)[k]? = _; simp [kk]⟩
  rw [call_k lf n_spec_l11Text _ (F := F_spec_l11Text) rfl rfl]
  simp only [LT.er,ptx]
  have k5 : k = 0 ∨ k = 1 ∨ k = 2 ∨ k = 3 ∨ k = 4 := by omega
  generalize ptx m t (ks.set k 0) n.er = S0 at *
  generalize ptx m t (ks.set k 1) y.er = S1 at *
  have kk1 : k = 1 → (1 : Int) < ks.length := by omega
  have kk2 : k = 2 → (2 : Int) < ks.length := by omega
  have kk3 : k = 3 → (3 : Int) < ks.length := by omega
  have kk4 : k = 4 → (4 : Int) < ks.length := by omega
  have b1 : 2 ≤ bound := by unfold bound; omega
  have b6 : 2 + S0.length ≤ bound := by unfold bound; omega
  have b7 : S0.length + 1 + 1 + 1 + S1.length ≤ bound := by unfold bound; omega
  have b8 : S0.length + (S1.length + 1) + 1 + 1 + 1 ≤ bound := by unfold bound; omega
  have b2 : S0.length + 1 + 1 ≤ bound := by unfold bound; omega
  have b3 : S0.length + 1 + 1 + 1 ≤ bound := by unfold bound; omega
  have b4 : S0.length + (S1.length + 1) + 1 + 1 ≤ bound := by unfold bound; omega
  have b5 : S0.length + (S1.length + 1 + 1) + 1 + 1 ≤ bound := by unfold bound; omega
  rcases k5 with rfl | rfl | rfl | rfl | rfl <;>
  simp [F_spec_l11Text,pn,AT,pc,lb,kk,kk',kk1,kk2,kk3,kk4,atk,t0,t1,lend_set,G0,G1,b6,b7,b8,b1,b2,b3,b4,b5,show wr 1 = 1 from wr_id (by omega) (by omega),show wr 2 = 2 from wr_id (by omega) (by omega),show wr 3 = 3 from wr_id (by omega) (by omega),show wr 4 = 4 from wr_id (by omega) (by omega),show wr 5 = 5 from wr_id (by omega) (by omega),ltr]
/-- the text of a plan -/
theorem c_spec_PlanText {m : Nat} {t : List T} {P : List C3} {L : LT} (hb : (t.length : Int) < 1099511627776) (ht : tmOk m t = true) (h : isPl m t P L) : call lf n_spec_PlanText [.i m,.sl 0 (t.map e2),.sl 0 (P.map e3)] = some (.s (ptx m t (non m) L.er),[]) := by
 obtain ⟨g3,g4,_⟩ := tmOk_iff.1 ht
 have few := h.few
 have C1 := c_spec_PlanOk (m := m) hb (P := P) (by omega)
 rw [pk_iff.2 ⟨ht,L,h⟩] at C1
 have C2 := c_spec_l3Table ht
 have C3 := c_spec_l4None (m := m) (by omega) (by omega)
 rw [Int.toNat_natCast] at C3
 have C4 := c_spec_l11Text (m := m) (by omega) (by omega) t (P := P) (by omega) L (rot P) (non m) (non_len _) (non_all _) h.e h.ok (by rw [h.sz]; omega)
 have hq' : (P.map e3).length = P.length := by simp
 have hLE := lend_e3 P
 have nl := non_len m
 have tk : List.take m ((non m).map DV.i) = (non m).map .i := List.take_of_length_le (by simp [nl])
 rw [call_k lf n_spec_PlanText _ (F := F_spec_PlanText) rfl rfl]
 generalize ptx m t (non m) L.er = S at *
 by_cases hz : P = []
 ·have e : rot P = -1 := by unfold rot; rw [if_pos hz]
  rw [e] at C4
  have hz' : P.length = 0 := by rw [hz]; rfl
  generalize P.map e3 = E at *
  simp [F_spec_PlanText,C1,C2,C3,C4,hq',hz',hLE,nl,tk]
 ·have e : rot P = 0 := by unfold rot; rw [if_neg hz]
  rw [e] at C4
  have := List.length_pos_iff.2 hz
  have hz' : ((P.length : Int) == 0) = false := beq_eq_false_iff_ne.2 (by omega)
  generalize P.map e3 = E at *
  simp [F_spec_PlanText,C1,C2,C3,C4,hq',hz',hLE,nl,tk]
theorem c_spec_PlanText_no {m : Int} {t : List T} {P : List C3} (hb : (t.length : Int) < 1099511627776) (hN : (P.length : Int) < 1099511627776) (h : pkOk m t P = false) : call lf n_spec_PlanText [.i m,.sl 0 (t.map e2),.sl 0 (P.map e3)] = some (.s [],[]) := by
 have C1 := c_spec_PlanOk (m := m) hb hN
 rw [h] at C1
 rw [call_k lf n_spec_PlanText _ (F := F_spec_PlanText) rfl rfl]
 simp [F_spec_PlanText,C1]
end
section
attribute [-simp] DV.cells sliceD
attribute [local simp] cells_st cells_sl cells_i cells_y cells_b cells_s cells_w
attribute [local simp] lend_e3 adopt_e3 new_e3 al_e3 lt_e3
/-- what the reader of the given side answers -/
def RdA (s : List UInt8) (Q : List C3) (at_ : Nat) : Option (PT × List UInt8) → Prop
 | none => ∃ R : List C3,R.length ≤ 31 ∧ call lf n_spec_l11Read [.s s,.i at_,.gv 3 (Q.map e3)] = some (.tup [.fr 3 (R.map e3),.i (-1),.i (-1)],[])
 | some (x,r) => call lf n_spec_l11Read [.s s,.i at_,.gv 3 (Q.map e3)] = some (.tup [.fr 3 ((Q ++ ser x Q.length).map e3),.i (rt x Q.length),.i ((s.length : Int) - r.length)],[])
/-- what is left is an end -/
theorem rd_end : ∀ (f c : Nat) (s : List UInt8) (x : PT) (r : List UInt8),rdP f c s = some (x,r) → ∃ k,r = s.drop k ∧ k + r.length = s.length
 | 0,_,_,_,_,h => by cases h
 | f + 1,c,[],x,r,h => by simp [rdP] at h
 | f + 1,c,b :: s,x,r,h => by
  simp only [rdP] at h
  by_cases h1 : b = 48 ∨ b = 49
  ·rw [if_pos h1] at h
   simp only [Option.some.injEq,Prod.mk.injEq] at h
   obtain ⟨rfl,rfl⟩ := h
   exact ⟨1,rfl,by simp; omega⟩
  rw [if_neg h1] at h
  by_cases h2 : b < 97 ∨ 101 < b ∨ s.head? ≠ some 40 ∨ 31 ≤ c
  ·rw [if_pos h2] at h; cases h
  rw [if_neg h2] at h
  simp only [not_or] at h2
  cases e : rdP f (c + 1) s.tail with
  | none => rw [e] at h; cases h
  | some q =>
   obtain ⟨n,r2⟩ := q
   rw [e] at h
   simp only at h
   obtain ⟨k1,i1,i2⟩ := rd_end f (c + 1) s.tail n r2 e
   by_cases h3 : r2.head? ≠ some 44
   ·rw [if_pos h3] at h; cases h
   rw [if_neg h3] at h
   cases e' : rdP f (c + 1 + n.size) r2.tail with
   | none => rw [e'] at h; cases h
   | some q =>
    obtain ⟨y,r4⟩ := q
    rw [e'] at h
    simp only at h
    obtain ⟨k2,j1,j2⟩ := rd_end f (c + 1 + n.size) r2.tail y r4 e'
    by_cases h4 : r4.head? ≠ some 41
    ·rw [if_pos h4] at h; cases h
    rw [if_neg h4] at h
    simp only [Option.some.injEq,Prod.mk.injEq] at h
    obtain ⟨rfl,rfl⟩ := h
    have T : ∀ {l : List UInt8} {v : UInt8},¬ l.head? ≠ some v → l.tail.length + 1 = l.length := fun {l v} q => by
     cases l with
     | nil => simp at q
     | cons a l => rfl
    have t1 := T h2.2.2.1
    have t2 := T h3
    have t3 := T h4
    refine ⟨1 + 1 + k1 + 1 + k2 + 1,?_,?_⟩
    ·have e0 : s.tail = (b :: s).drop 2 := by cases s <;> rfl
     simp only [j1,i1,e0,List.tail_drop,List.drop_drop]
    ·simp only [List.length_cons]
     omega
theorem u8n {a : UInt8} {n : Nat} (hn : n < 256) : a = UInt8.ofNat n ↔ a.toNat = n := by
 rw [← UInt8.toNat_inj,UInt8.toNat_ofNat']
 have : n % 2 ^ 8 = n := Nat.mod_eq_of_lt hn
 rw [this]
theorem idx_bad {s : List UInt8} {n : Int} {v : UInt8} (h : n < 0 ∨ (s.length : Int) ≤ n ∨ ∃ b,s[n.toNat]? = some b ∧ b ≠ v) : n < 0 ∨ (0 ≤ n ∧ (s.length : Int) ≤ n) ∨ (0 ≤ n ∧ n < s.length ∧ ∃ b,s[n.toNat]? = some b ∧ b ≠ v) := by
 by_cases h0 : n < 0
 ·exact .inl h0
 ·by_cases h1 : (s.length : Int) ≤ n
  ·exact .inr (.inl ⟨by omega,h1⟩)
  ·rcases h with h | h | h
   ·exact absurd h h0
   ·exact absurd h h1
   ·exact .inr (.inr ⟨by omega,by omega,h⟩)
def rdRet (k : Nat) (R : List C3) (a b : Int) : LS := ⟨[(6,.own k R.length 0 R.length),(7,.i a),(8,.i b)],[(k,R.map e3)]⟩
def rd5 (s : List UInt8) (R : List C3) (pl ask left right next : Int) : LS := ⟨[(0,.s s),(2,.own 54297 R.length 0 R.length),(9,.i pl),(10,.i ask),(11,.i left),(13,.i right),(14,.i next)],[(54297,R.map e3)]⟩
def rd4 (s : List UInt8) (R : List C3) (pl ask left mid : Int) : LS := ⟨[(0,.s s),(2,.own 42009 R.length 0 R.length),(9,.i pl),(10,.i ask),(11,.i left),(12,.i mid)],[(42009,R.map e3)]⟩
theorem rd5_no {s : List UInt8} {R : List C3} {pl ask left right next : Int} (h : next < 0 ∨ (0 ≤ next ∧ (s.length : Int) ≤ next) ∨ (0 ≤ next ∧ next < s.length ∧ ∃ b : UInt8,s[next.toNat]? = some b ∧ b ≠ 41)) :
  ex lf F_spec_l11Read_C5 (rd5 s R pl ask left right next) = some (.ret,rdRet 54297 R (-1) (-1)) := by
 unfold rd5 rdRet
 rcases h with h | ⟨h0,h⟩ | ⟨h0,h1,b,h2,h3⟩
 ·simp [F_spec_l11Read_C5,h]
 ·have h0' : ¬ next < 0 := by omega
  simp [F_spec_l11Read_C5,h0',h]
 ·have h0' : ¬ next < 0 := by omega
  have h1' : ¬ (s.length : Int) ≤ next := by omega
  have h3' : (b.toNat != 41) = true := by
   have : b.toNat ≠ 41 := fun e => h3 ((u8n (n := 41) (by omega)).2 e)
   simpa using this
  simp [F_spec_l11Read_C5,h0',h1',h0,h2,h3']
theorem rd5_yes {s : List UInt8} {R : List C3} {pl : Nat} {ask left right : Int} {n : Nat} (hp : pl < R.length) (hn : s[n]? = some 41) (hs : s.length ≤ 400) :
  ex lf F_spec_l11Read_C5 (rd5 s R pl ask left right n) = some (.ret,rdRet 54297 (R.set pl (ask,left,right)) pl ((n + 1 : Nat) : Int)) := by
 have nl : n < s.length := (List.getElem?_eq_some_iff.1 hn).1
 have h1' : ¬ (s.length : Int) ≤ (n : Int) := by omega
 have w1 : wr ((n : Int) + 1) = ((n + 1 : Nat) : Int) := by rw [wr_id (by omega) (by omega)]; omega
 have hp' : (pl : Int) < R.length := by omega
 have ea : ((R.map e3))[pl]? = some (e3 R[pl]) := by rw [List.getElem?_map,List.getElem?_eq_getElem hp]; rfl
 have a2 : atN (R.map e3) pl = some (e3 R[pl]) := ea
 have es : (R.map e3).set pl (.st [.i ask,.i left,.i right]) = (R.set pl (ask,left,right)).map e3 := by rw [List.map_set]; rfl
 have le : (e3 R[pl]).cells.length = 3 := rfl
 obtain ⟨x,hx⟩ : ∃ x,e3 R[pl] = .st x := ⟨_,rfl⟩
 have lr : (R.set pl (ask,left,right)).length = R.length := List.length_set
 have hs41 : s[n] = 41 := (List.getElem?_eq_some_iff.1 hn).2
 unfold rd5 rdRet
 rw [lr,← es]
 rw [hx] at a2 le
 have lE : (R.map e3).length = R.length := by simp
 have tkR := tk_e3 R
 generalize R.map e3 = E at *
 have lx : x.length = 3 := le
 have dx : List.drop 3 x = [] := List.drop_eq_nil_of_le (by omega)
 have n0 : ¬ (n : Int) < 0 := by omega
 simp [F_spec_l11Read_C5,n0,h1',nl,hn,hs41,hp,hp',w1,a2,lx,dx,lE,tkR,-Int.natCast_add]
theorem rd4_no {s : List UInt8} {R : List C3} {pl ask left mid : Int} (h : mid < 0 ∨ (0 ≤ mid ∧ (s.length : Int) ≤ mid) ∨ (0 ≤ mid ∧ mid < s.length ∧ ∃ b : UInt8,s[mid.toNat]? = some b ∧ b ≠ 44)) :
  ex lf F_spec_l11Read_C4 (rd4 s R pl ask left mid) = some (.ret,rdRet 42009 R (-1) (-1)) := by
 unfold rd4 rdRet
 rcases h with h | ⟨h0,h⟩ | ⟨h0,h1,b,h2,h3⟩
 ·simp [F_spec_l11Read_C4,h]
 ·have h0' : ¬ mid < 0 := by omega
  simp [F_spec_l11Read_C4,h0',h]
 ·have h0' : ¬ mid < 0 := by omega
  have h1' : ¬ (s.length : Int) ≤ mid := by omega
  have h3' : (b.toNat != 44) = true := by
   have : b.toNat ≠ 44 := fun e => h3 ((u8n (n := 44) (by omega)).2 e)
   simpa using this
  simp [F_spec_l11Read_C4,h0',h1',h0,h2,h3']
theorem rd4_yes {s : List UInt8} {Q R : List C3} {pl ask left right next : Int} {m : Nat} (hm : s[m]? = some 44) (hs : s.length ≤ 400) (lq : Q.length ≤ 31) (lr : R.length ≤ 31) (C : call lf n_spec_l11Read [.s s,.i ((m + 1 : Nat) : Int),.gv 3 (Q.map e3)] = some (.tup [.fr 3 (R.map e3),.i right,.i next],[])) :
  ex lf F_spec_l11Read_C4 (rd4 s Q pl ask left m) = ex lf F_spec_l11Read_C5 (rd5 s R pl ask left right next) := by
 have nl : m < s.length := (List.getElem?_eq_some_iff.1 hm).1
 have h1' : ¬ (s.length : Int) ≤ (m : Int) := by omega
 have w1 : wr ((m : Int) + 1) = ((m + 1 : Nat) : Int) := by rw [wr_id (by omega) (by omega)]; omega
 have hs44 : s[m] = 44 := (List.getElem?_eq_some_iff.1 hm).2
 have tkQ := tk_e3 Q
 have tkR := tk_e3 R
 have lQ : (Q.map e3).length = Q.length := by simp
 have lR : (R.map e3).length = R.length := by simp
 unfold rd4 rd5
 have n0 : ¬ (m : Int) < 0 := by omega
 simp [F_spec_l11Read_C4,n0,h1',nl,hm,hs44,w1,C,tkQ,tkR,-Int.natCast_add]
def rd3 (s : List UInt8) (at_ : Nat) (R : List C3) (pl ask : Int) : LS := ⟨[(0,.s s),(1,.i at_),(2,.own 35864 R.length 0 R.length),(9,.i pl),(10,.i ask)],[(35864,R.map e3)]⟩
def rd2 (s : List UInt8) (at_ : Nat) (Q : List C3) : LS := ⟨[(0,.s s),(1,.i at_),(2,.own 1054 Q.length 0 Q.length)],[(1054,Q.map e3)]⟩
theorem rd3_go {s : List UInt8} {at_ : Nat} {Q R : List C3} {pl ask left mid : Int} (ha : at_ ≤ 400) (lq : Q.length ≤ 32) (lr : R.length ≤ 32) (C : call lf n_spec_l11Read [.s s,.i ((at_ + 2 : Nat) : Int),.gv 3 (Q.map e3)] = some (.tup [.fr 3 (R.map e3),.i left,.i mid],[])) :
  ex lf F_spec_l11Read_C3 (rd3 s at_ Q pl ask) = ex lf F_spec_l11Read_C4 (rd4 s R pl ask left mid) := by
 have w1 : wr ((at_ : Int) + 2) = ((at_ + 2 : Nat) : Int) := by rw [wr_id (by omega) (by omega)]; omega
 have tkQ := tk_e3 Q
 have tkR := tk_e3 R
 have lQ : (Q.map e3).length = Q.length := by simp
 have lR : (R.map e3).length = R.length := by simp
 unfold rd4 rd3
 simp [F_spec_l11Read_C3,w1,C,tkQ,tkR,-Int.natCast_add]
theorem rd2_go {s : List UInt8} {at_ : Nat} {Q : List C3} {b : UInt8} (hb : s[at_]? = some b) (b1 : 97 ≤ b.toNat) (b2 : b.toNat ≤ 101) (lq : Q.length ≤ 31) :
  ex lf F_spec_l11Read_C2 (rd2 s at_ Q) = ex lf F_spec_l11Read_C3 (rd3 s at_ (Q ++ [(((b.toNat - 97 : Nat) : Int),-1,-1)]) Q.length ((b.toNat - 97 : Nat) : Int)) := by
 have hlt : at_ < s.length := (List.getElem?_eq_some_iff.1 hb).1
 have hlt2 : (at_ : Int) < s.length := by omega
 have hbb : s[at_] = b := (List.getElem?_eq_some_iff.1 hb).2
 have kb : wr8 ((b.toNat : Int) - 97) = b.toNat - 97 := by
  unfold wr8
  omega
 have l1 : (Q ++ [(((b.toNat - 97 : Nat) : Int),(-1 : Int),(-1 : Int))]).length = Q.length + 1 := by simp
 have e1 : (Q ++ [(((b.toNat - 97 : Nat) : Int),(-1 : Int),(-1 : Int))]).map e3 = Q.map e3 ++ [.st [.i ((b.toNat - 97 : Nat) : Int),.i (-1),.i (-1)]] := by rw [List.map_append]; rfl
 have lb : Q.length ≤ bound := by unfold bound; omega
 have lb1 : Q.length + 1 ≤ bound := by unfold bound; omega
 have tkQ := tk_e3 Q
 have lQ : (Q.map e3).length = Q.length := by simp
 have cE : ∀ e ∈ Q.map e3,e.cells.length = 3 := fun e he => by
  obtain ⟨x,_,rfl⟩ := List.mem_map.1 he
  rfl
 have lend := lend_e3 Q
 unfold rd2 rd3
 rw [l1,e1]
 generalize b.toNat - 97 = a at *
 generalize Q.map e3 = E at *
 simp [F_spec_l11Read_C2,hlt,hlt2,hb,hbb,kb,lb,lb1,tkQ,lQ,if_pos cE,lend,-Int.natCast_add]
theorem rd1_no {s : List UInt8} {at_ : Nat} {Q : List C3} {b : UInt8} (hs : s.length ≤ 400) (hb : s[at_]? = some b) (lq : Q.length ≤ 31) (h : b < 97 ∨ 101 < b ∨ s[at_ + 1]? ≠ some 40 ∨ 31 ≤ Q.length) :
  ex lf F_spec_l11Read_C1 (rd2 s at_ Q) = some (.ret,rdRet 1054 Q (-1) (-1)) := by
 have hlt : at_ < s.length := (List.getElem?_eq_some_iff.1 hb).1
 have hlt2 : (at_ : Int) < s.length := by omega
 have hbb : s[at_] = b := (List.getElem?_eq_some_iff.1 hb).2
 have wa1 : wr ((at_ : Int) + 1) = ((at_ + 1 : Nat) : Int) := by rw [wr_id (by omega) (by omega)]; omega
 have l97 : b < 97 ↔ b.toNat < 97 := UInt8.lt_iff_toNat_lt
 have l101 : 101 < b ↔ 101 < b.toNat := UInt8.lt_iff_toNat_lt
 have lQ : (Q.map e3).length = Q.length := by simp
 unfold rd2 rdRet
 by_cases c1 : b.toNat < 97
 ·simp [F_spec_l11Read_C1,hlt,hlt2,hb,hbb,c1]
 by_cases c2 : 101 < b.toNat
 ·simp [F_spec_l11Read_C1,hlt,hlt2,hb,hbb,c1,c2]
 by_cases c3 : s.length ≤ at_ + 1
 ·have c3' : (s.length : Int) ≤ ((at_ + 1 : Nat) : Int) := by omega
  simp [F_spec_l11Read_C1,hlt,hlt2,hb,hbb,c1,c2,wa1,c3',-Int.natCast_add]
 have c3l : at_ + 1 < s.length := by omega
 have c3' : ¬ (s.length : Int) ≤ ((at_ + 1 : Nat) : Int) := by omega
 have c3'' : ((at_ + 1 : Nat) : Int) < s.length := by omega
 have at2 : s[at_ + 1]? = some s[at_ + 1] := List.getElem?_eq_getElem c3l
 rw [at2] at h
 obtain ⟨d,hd⟩ : ∃ d,s[at_ + 1] = d := ⟨_,rfl⟩
 rw [hd] at at2 h
 by_cases c4 : d.toNat = 40
 ·have c5 : 31 ≤ Q.length := by
   rcases h with h | h | h | h
   ·exact absurd (l97.1 h) c1
   ·exact absurd (l101.1 h) c2
   ·exact absurd (by rw [(u8n (n := 40) (by omega)).2 c4]; rfl) h
   ·exact h
  have c5' : (31 : Int) ≤ Q.length := by omega
  simp [F_spec_l11Read_C1,hlt,hlt2,hb,hbb,c1,c2,wa1,c3l,c3',c3'',hd,at2,c4,lQ,c5',-Int.natCast_add]
 ·have c4' : (d.toNat != 40) = true := by simp [c4]
  simp [F_spec_l11Read_C1,hlt,hlt2,hb,hbb,c1,c2,wa1,c3l,c3',c3'',hd,at2,c4',-Int.natCast_add]
theorem rd1_yes {s : List UInt8} {at_ : Nat} {Q : List C3} {b : UInt8} (hs : s.length ≤ 400) (hb : s[at_]? = some b) (c1 : ¬ b.toNat < 97) (c2 : ¬ 101 < b.toNat) (c4 : s[at_ + 1]? = some 40) (c5 : ¬ 31 ≤ Q.length) :
  ex lf F_spec_l11Read_C1 (rd2 s at_ Q) = ex lf F_spec_l11Read_C2 (rd2 s at_ Q) := by
 have hlt : at_ < s.length := (List.getElem?_eq_some_iff.1 hb).1
 have hlt2 : (at_ : Int) < s.length := by omega
 have hbb : s[at_] = b := (List.getElem?_eq_some_iff.1 hb).2
 have wa1 : wr ((at_ : Int) + 1) = ((at_ + 1 : Nat) : Int) := by rw [wr_id (by omega) (by omega)]; omega
 have lQ : (Q.map e3).length = Q.length := by simp
 have c3l : at_ + 1 < s.length := (List.getElem?_eq_some_iff.1 c4).1
 have hd : s[at_ + 1] = 40 := (List.getElem?_eq_some_iff.1 c4).2
 have c3' : ¬ (s.length : Int) ≤ ((at_ + 1 : Nat) : Int) := by omega
 have c3'' : ((at_ + 1 : Nat) : Int) < s.length := by omega
 have c5' : ¬ (31 : Int) ≤ Q.length := by omega
 unfold rd2
 simp [F_spec_l11Read_C1,hlt,hlt2,hb,hbb,c1,c2,wa1,c3l,c3',c3'',hd,c4,lQ,c5',-Int.natCast_add]
theorem rd0_dig {s : List UInt8} {at_ : Nat} {Q : List C3} {b : UInt8} (hs : s.length ≤ 400) (hb : s[at_]? = some b) (h : b = 48 ∨ b = 49) :
  ex lf F_spec_l11Read_C0 (rd2 s at_ Q) = some (.ret,rdRet 1054 Q (-1) ((at_ + 1 : Nat) : Int)) := by
 have hlt : at_ < s.length := (List.getElem?_eq_some_iff.1 hb).1
 have hlt2 : (at_ : Int) < s.length := by omega
 have hbb : s[at_] = b := (List.getElem?_eq_some_iff.1 hb).2
 have wa1 : wr ((at_ : Int) + 1) = ((at_ + 1 : Nat) : Int) := by rw [wr_id (by omega) (by omega)]; omega
 unfold rd2 rdRet
 rcases h with rfl | rfl <;> simp [F_spec_l11Read_C0,hlt,hlt2,hb,hbb,wa1,-Int.natCast_add]
theorem rd0_go {s : List UInt8} {at_ : Nat} {Q : List C3} {b : UInt8} (hs : s.length ≤ 400) (hb : s[at_]? = some b) (h : ¬ (b = 48 ∨ b = 49)) :
  ex lf F_spec_l11Read_C0 (rd2 s at_ Q) = ex lf F_spec_l11Read_C1 (rd2 s at_ Q) := by
 have hlt : at_ < s.length := (List.getElem?_eq_some_iff.1 hb).1
 have hlt2 : (at_ : Int) < s.length := by omega
 have hbb : s[at_] = b := (List.getElem?_eq_some_iff.1 hb).2
 rw [not_or] at h
 have n48 : b.toNat ≠ 48 := fun q => h.1 ((u8n (n := 48) (by omega)).2 q)
 have n49 : b.toNat ≠ 49 := fun q => h.2 ((u8n (n := 49) (by omega)).2 q)
 have b48 : (b.toNat == 48) = false := beq_eq_false_iff_ne.2 n48
 have b49 : (b.toNat == 49) = false := beq_eq_false_iff_ne.2 n49
 unfold rd2
 simp [F_spec_l11Read_C0,hlt,hlt2,hb,hbb,b48,b49]
theorem rd_ret {s : List UInt8} {at_ : Nat} {Q R : List C3} {k : Nat} {a c : Int} (hs : s.length ≤ 400) (ha : at_ < s.length) (hk : k = 1054 ∨ k = 42009 ∨ k = 54297) (h : ex lf F_spec_l11Read_C0 (rd2 s at_ Q) = some (.ret,rdRet k R a c)) :
  call lf n_spec_l11Read [.s s,.i at_,.gv 3 (Q.map e3)] = some (.tup [.fr 3 (R.map e3),.i a,.i c],[]) := by
 rw [call_k lf n_spec_l11Read _ (F := F_spec_l11Read) rfl rfl]
 have hlt' : ¬ (s.length : Int) ≤ at_ := by omega
 have lQ : (Q.map e3).length = Q.length := by simp
 have lR : (R.map e3).length = R.length := by simp
 have tkR := tk_e3 R
 unfold rd2 rdRet at h
 generalize R.map e3 = E at *
 rcases hk with rfl | rfl | rfl <;> simp [F_spec_l11Read,hlt',lQ,h,lR,tkR]
theorem rd_out {s : List UInt8} {at_ : Nat} {Q : List C3} (hs : s.length ≤ 400) (ha : s.length ≤ at_) :
  call lf n_spec_l11Read [.s s,.i at_,.gv 3 (Q.map e3)] = some (.tup [.fr 3 (Q.map e3),.i (-1),.i (-1)],[]) := by
 rw [call_k lf n_spec_l11Read _ (F := F_spec_l11Read) rfl rfl]
 have h' : (s.length : Int) ≤ at_ := by omega
 have tkQ := tk_e3 Q
 have lQ : (Q.map e3).length = Q.length := by simp
 generalize Q.map e3 = E at *
 simp [F_spec_l11Read,h',tkQ,lQ]
theorem c_spec_l11Read {s : List UInt8} (hs : s.length ≤ 400) : ∀ (f at_ : Nat) (Q : List C3),at_ ≤ s.length → s.length < at_ + f → Q.length ≤ 31 → RdA s Q at_ (rdP f Q.length (s.drop at_))
 | 0,at_,Q,h1,h2,h3 => by omega
 | f + 1,at_,Q,ha,hf,hQ => by
  by_cases hlt : s.length ≤ at_
  ·have e : s.drop at_ = [] := List.drop_eq_nil_of_le (by omega)
   rw [e]
   exact ⟨Q,hQ,rd_out hs hlt⟩
  have hlt : at_ < s.length := by omega
  have at1 : s[at_]? = some s[at_] := List.getElem?_eq_getElem hlt
  rw [List.drop_eq_getElem_cons hlt]
  obtain ⟨b,hb⟩ : ∃ b,s[at_] = b := ⟨_,rfl⟩
  rw [hb] at at1
  rw [hb]
  simp only [rdP]
  by_cases h1 : b = 48 ∨ b = 49
  ·rw [if_pos h1]
   simp only [RdA]
   have ln : (s.length : Int) - ((s.drop (at_ + 1)).length : Int) = ((at_ + 1 : Nat) : Int) := by
    rw [List.length_drop]; omega
   rw [ln]
   simp only [ser,rt,List.append_nil]
   exact rd_ret hs hlt (.inl rfl) (rd0_dig hs at1 h1)
  rw [if_neg h1]
  have g0 := rd0_go (Q := Q) hs at1 h1
  have hd1 : (s.drop (at_ + 1)).head? = s[at_ + 1]? := List.head?_drop
  rw [hd1]
  by_cases h2 : b < 97 ∨ 101 < b ∨ s[at_ + 1]? ≠ some 40 ∨ 31 ≤ Q.length
  ·rw [if_pos h2]
   exact ⟨Q,hQ,rd_ret hs hlt (.inl rfl) (g0.trans (rd1_no hs at1 hQ h2))⟩
  rw [if_neg h2]
  simp only [not_or,ne_eq,Classical.not_not] at h2
  obtain ⟨c1,c2,c4,c5⟩ := h2
  have l97 : b < 97 ↔ b.toNat < 97 := UInt8.lt_iff_toNat_lt
  have l101 : 101 < b ↔ 101 < b.toNat := UInt8.lt_iff_toNat_lt
  rw [l97] at c1
  rw [l101] at c2
  have g1 := g0.trans (rd1_yes hs at1 c1 c2 c4 c5)
  have g2 := g1.trans (rd2_go at1 (by omega) (by omega) hQ)
  have c3l : at_ + 1 < s.length := (List.getElem?_eq_some_iff.1 c4).1
  have dt : (s.drop (at_ + 1)).tail = s.drop (at_ + 2) := List.tail_drop
  rw [dt]
  have l1 : (Q ++ [(((b.toNat - 97 : Nat) : Int),(-1 : Int),(-1 : Int))]).length = Q.length + 1 := by simp
  have IH1 := c_spec_l11Read hs f (at_ + 2) (Q ++ [(((b.toNat - 97 : Nat) : Int),-1,-1)]) (by omega) (by omega) (by rw [l1]; omega)
  rw [l1] at IH1
  cases r1 : rdP f (Q.length + 1) (s.drop (at_ + 2)) with
  | none =>
   rw [r1] at IH1
   obtain ⟨R,hR,IH1⟩ := IH1
   exact ⟨R,hR,rd_ret hs hlt (.inr (.inl rfl)) (g2.trans ((rd3_go (by omega) (by rw [l1]; omega) (by omega) IH1).trans (rd4_no (.inl (by omega)))))⟩
  | some q =>
   obtain ⟨n,r2⟩ := q
   rw [r1] at IH1
   simp only [RdA] at IH1
   obtain ⟨f1,_,_⟩ := rd_few f (Q.length + 1) _ n r2 (by omega) r1
   obtain ⟨k1,i1,i2⟩ := rd_end _ _ _ _ _ r1
   rw [List.length_drop] at i2
   obtain ⟨mid,hmid⟩ : ∃ mid,mid = at_ + 2 + k1 := ⟨_,rfl⟩
   have i3 : r2 = s.drop mid := by rw [i1,List.drop_drop,hmid]
   have mle : mid ≤ s.length := by omega
   have em : (s.length : Int) - (r2.length : Int) = (mid : Int) := by omega
   rw [l1,em] at IH1
   obtain ⟨Q1,hQ1⟩ : ∃ Q1,Q1 = Q ++ [(((b.toNat - 97 : Nat) : Int),(-1 : Int),(-1 : Int))] ++ ser n (Q.length + 1) := ⟨_,rfl⟩
   have l2 : Q1.length = Q.length + 1 + n.size := by rw [hQ1]; simp [ser_len]; omega
   rw [← hQ1] at IH1
   have g3 := g2.trans (rd3_go (pl := Q.length) (ask := ((b.toNat - 97 : Nat) : Int)) (by omega) (by rw [l1]; omega) (by omega) IH1)
   have hd2 : r2.head? = s[mid]? := by rw [i3]; exact List.head?_drop
   have dt2 : r2.tail = s.drop (mid + 1) := by rw [i3]; exact List.tail_drop
   simp only
   rw [dt2,hd2]
   by_cases h3 : s[mid]? ≠ some 44
   ·rw [if_pos h3]
    refine ⟨Q1,by omega,rd_ret hs hlt (.inr (.inl rfl)) (g3.trans (rd4_no (idx_bad ?_)))⟩
    by_cases m1 : s.length ≤ mid
    ·exact .inr (.inl (by omega))
    ·have m1l : mid < s.length := by omega
     have at3 : s[mid]? = some s[mid] := List.getElem?_eq_getElem m1l
     exact .inr (.inr ⟨s[mid],by rw [Int.toNat_natCast]; exact at3,fun e => h3 (by rw [at3,e])⟩)
   rw [if_neg h3]
   have h3 : s[mid]? = some 44 := Classical.not_not.1 h3
   have m3l : mid < s.length := (List.getElem?_eq_some_iff.1 h3).1
   have IH2 := c_spec_l11Read hs f (mid + 1) Q1 (by omega) (by omega) (by omega)
   rw [l2] at IH2
   cases r2' : rdP f (Q.length + 1 + n.size) (s.drop (mid + 1)) with
   | none =>
    rw [r2'] at IH2
    obtain ⟨R,hR,IH2⟩ := IH2
    exact ⟨R,hR,rd_ret hs hlt (.inr (.inr rfl)) (g3.trans ((rd4_yes h3 hs (by omega) hR IH2).trans (rd5_no (.inl (by omega)))))⟩
   | some q =>
    obtain ⟨y,r4⟩ := q
    rw [r2'] at IH2
    simp only [RdA] at IH2
    obtain ⟨f2,_,_⟩ := rd_few f (Q.length + 1 + n.size) _ y r4 (by omega) r2'
    obtain ⟨k2,j1,j2⟩ := rd_end _ _ _ _ _ r2'
    rw [List.length_drop] at j2
    obtain ⟨nx,hnx⟩ : ∃ nx,nx = mid + 1 + k2 := ⟨_,rfl⟩
    have j3 : r4 = s.drop nx := by rw [j1,List.drop_drop,hnx]
    have nle : nx ≤ s.length := by omega
    have en : (s.length : Int) - (r4.length : Int) = (nx : Int) := by omega
    rw [l2,en] at IH2
    obtain ⟨Q2,hQ2⟩ : ∃ Q2,Q2 = Q1 ++ ser y (Q.length + 1 + n.size) := ⟨_,rfl⟩
    have l3 : Q2.length = Q.length + 1 + n.size + y.size := by rw [hQ2]; simp [ser_len]; omega
    rw [← hQ2] at IH2
    have g4 := g3.trans (rd4_yes h3 hs (by omega) (by omega) IH2)
    have hd3 : r4.head? = s[nx]? := by rw [j3]; exact List.head?_drop
    simp only
    rw [hd3]
    by_cases h4 : s[nx]? ≠ some 41
    ·rw [if_pos h4]
     refine ⟨Q2,by omega,rd_ret hs hlt (.inr (.inr rfl)) (g4.trans (rd5_no (idx_bad ?_)))⟩
     by_cases m1 : s.length ≤ nx
     ·exact .inr (.inl (by omega))
     ·have m1l : nx < s.length := by omega
      have at3 : s[nx]? = some s[nx] := List.getElem?_eq_getElem m1l
      exact .inr (.inr ⟨s[nx],by rw [Int.toNat_natCast]; exact at3,fun e => h4 (by rw [at3,e])⟩)
    rw [if_neg h4]
    have h4 : s[nx]? = some 41 := Classical.not_not.1 h4
    have n3l : nx < s.length := (List.getElem?_eq_some_iff.1 h4).1
    have g5 := g4.trans (rd5_yes (pl := Q.length) (by omega) h4 hs)
    have tl : ((s.length : Int) - (r4.tail.length : Int)) = ((nx + 1 : Nat) : Int) := by
     rw [j3,List.tail_drop,List.length_drop]; omega
    have sr : Q2.set Q.length (((b.toNat - 97 : Nat) : Int),rt n (Q.length + 1),rt y (Q.length + 1 + n.size)) = Q ++ ser (.ask (b.toNat - 97) n y) Q.length := by
     rw [hQ2,hQ1]
     simp [ser,List.set_append]
    simp only [RdA]
    rw [tl,← sr]
    exact rd_ret hs hlt (.inr (.inr rfl)) g5
end
section
attribute [-simp] DV.cells sliceD
attribute [local simp] cells_st cells_sl cells_i cells_y cells_b cells_s cells_w
attribute [local simp] lend_e3 adopt_e3 new_e3 al_e3 lt_e3
/-- what ReadPlan answers -/
def rpV : Option PT → DV
 | none => .tup [.fr 3 [],.b false]
 | some x => .tup [.fr 3 ((ser x 0).map e3),.b true]
theorem tm_nat {m : Int} {t : List T} (h : tmOk m t = true) : ((m.toNat : Nat) : Int) = m ∧ m.toNat ≤ 5 := by
 obtain ⟨h1,_,_⟩ := tmOk_iff.1 h
 omega
theorem pkOk_tm {m : Int} {t : List T} {P : List C3} (h : pkOk m t P = true) : tmOk m t = true := by
 unfold pkOk at h
 simp only [Bool.and_eq_true] at h
 exact h.1.1.1.1
theorem rp_no {s : List UInt8} {m : Int} {t : List T} {P : List C3} (hs : s.length ≤ 400) (hP : P.length ≤ 31) {a next : Int} (C : call lf n_spec_l11Read [.s s,.i 0,.gv 3 []] = some (.tup [.fr 3 (P.map e3),.i a,.i next],[])) (hn : next ≠ s.length) :
  call lf n_spec_ReadPlan [.i m,.sl 0 (t.map e2),.s s] = some (rpV none,[]) := by
 have hs' : ¬ (400 < (s.length : Int)) := by omega
 have tk := tk_e3 P
 have lE : (P.map e3).length = P.length := by simp
 have ne : ((next : Int) != (s.length : Int)) = true := bne_iff_ne.2 hn
 have hLE := lend_e3 P
 have aE := adopt_e3 false P
 rw [call_k lf n_spec_ReadPlan _ (F := F_spec_ReadPlan) rfl rfl]
 generalize P.map e3 = E at *
 simp [F_spec_ReadPlan,hs',C,ne,hLE,aE,tk,lE,rpV]
theorem rp_yes {s : List UInt8} {m : Int} {t : List T} {P : List C3} (hs : s.length ≤ 400) (hP : P.length ≤ 31) {a : Int} (C : call lf n_spec_l11Read [.s s,.i 0,.gv 3 []] = some (.tup [.fr 3 (P.map e3),.i a,.i s.length],[])) {S : List UInt8} (CT : call lf n_spec_PlanText [.i m,.sl 0 (t.map e2),.sl 0 (P.map e3)] = some (.s S,[])) :
  call lf n_spec_ReadPlan [.i m,.sl 0 (t.map e2),.s s] = some (if S = s then .tup [.fr 3 (P.map e3),.b true] else rpV none,[]) := by
 have hs' : ¬ (400 < (s.length : Int)) := by omega
 have tk := tk_e3 P
 have lE : (P.map e3).length = P.length := by simp
 have hLE := lend_e3 P
 have aE := adopt_e3 false P
 rw [call_k lf n_spec_ReadPlan _ (F := F_spec_ReadPlan) rfl rfl]
 generalize P.map e3 = E at *
 by_cases e : S = s
 ·subst e
  simp [F_spec_ReadPlan,hs',C,CT,tk,lE,hLE,aE]
 ·have e' : (S == s) = false := beq_false_of_ne e
  simp [F_spec_ReadPlan,hs',C,CT,tk,lE,hLE,aE,e,e',rpV]
theorem c_spec_ReadPlan {m : Int} {t : List T} (hb : (t.length : Int) < 1099511627776) (s : List UInt8) :
  call lf n_spec_ReadPlan [.i m,.sl 0 (t.map e2),.s s] = some (rpV (rpl m.toNat t s),[]) := by
 by_cases hs : 400 < s.length
 ·have e : rpl m.toNat t s = none := by unfold rpl; rw [if_pos hs]
  have hs' : 400 < (s.length : Int) := by omega
  rw [e,call_k lf n_spec_ReadPlan _ (F := F_spec_ReadPlan) rfl rfl]
  simp [F_spec_ReadPlan,hs',rpV]
 ·have hs' : s.length ≤ 400 := by omega
  have C := c_spec_l11Read hs' (s.length + 1) 0 [] (by omega) (by omega) (by simp)
  rw [List.length_nil,List.drop_zero] at C
  unfold rpl
  rw [if_neg hs]
  cases e : rdP (s.length + 1) 0 s with
  | none =>
   rw [e] at C
   obtain ⟨R,l,C⟩ := C
   exact rp_no hs' l C (by omega)
  | some q =>
   obtain ⟨x,r⟩ := q
   rw [e] at C
   obtain ⟨f1,f2,f3⟩ := rd_few _ _ _ _ _ (by omega) e
   simp only [RdA,List.nil_append,List.length_nil] at C
   have sl : (ser x 0).length ≤ 31 := by rw [ser_len]; omega
   cases r with
   | cons b r =>
    simp only
    exact rp_no hs' sl C (by simp only [List.length_cons]; omega)
   | nil =>
    simp only [List.length_nil,Int.natCast_zero,Int.sub_zero] at C
    simp only
    by_cases hp : pkOk m t (ser x 0) = true
    ·have ht := pkOk_tm hp
     obtain ⟨mm,m5⟩ := tm_nat ht
     have hp' := hp
     rw [← mm] at hp' ht
     obtain ⟨_,ox⟩ := (pk_ser m5).1 hp'
     have CT := c_spec_PlanText hb ht (ser_pl m5 ox)
     rw [mm,lab_er] at CT
     rw [rp_yes hs' sl C CT]
     by_cases g : ptx m.toNat t (non m.toNat) x = s
     ·rw [if_pos g,if_pos ⟨hp',g⟩]; rfl
     ·rw [if_neg g,if_neg (fun q => g q.2)]
    ·have CT := c_spec_PlanText_no (m := m) (t := t) (P := ser x 0) hb (by omega) (by simpa using hp)
     rw [rp_yes hs' sl C CT]
     have g : ¬ ([] : List UInt8) = s := by
      rintro rfl
      simp [rdP] at e
     rw [if_neg g,if_neg (fun q => by
      have ht := pkOk_tm q.1
      obtain ⟨g1,_,_⟩ := tmOk_iff.1 ht
      have mm : ((m.toNat : Nat) : Int) = m := by omega
      rw [mm] at q
      exact hp q.1)]
end
section
def aN : List Int → Nat
 | [] => 0
 | k :: r => (if k = -1 then 0 else 1) + 2 * aN r
def kn : List Int → Nat
 | [] => 0
 | k :: r => (if k = -1 then 0 else 1) + kn r
theorem aN_lt : ∀ ks : List Int,aN ks < 2 ^ ks.length
 | [] => by decide
 | k :: r => by
  have ih := aN_lt r
  simp only [aN,List.length_cons,Nat.pow_succ]
  split <;> omega
theorem aN_non : ∀ m : Nat,aN (non m) = 0
 | 0 => rfl
 | m + 1 => by
  show (if (-1 : Int) = -1 then 0 else 1) + 2 * aN (non m) = 0
  rw [aN_non m]
  rfl
theorem aN_b0 (k : Int) (r : List Int) : (aN (k :: r)).testBit 0 = !decide (k = -1) := by
 simp only [aN,Nat.testBit_zero]
 by_cases h : k = -1
 ·simp [h]
 ·simp [h]
theorem aN_div (k : Int) (r : List Int) : aN (k :: r) / 2 = aN r := by
 simp only [aN]
 split <;> omega
theorem aN_bs (k : Int) (r : List Int) (i : Nat) : (aN (k :: r)).testBit (i + 1) = (aN r).testBit i := by
 rw [Nat.testBit_succ,aN_div]
theorem aN_bit : ∀ {ks : List Int} {i : Nat},i < ks.length → ((aN ks).testBit i = !decide (ks[i]? = some (-1)))
 | [],i,h => by simp at h
 | k :: r,0,_ => by rw [aN_b0]; simp
 | k :: r,i + 1,h => by
  rw [aN_bs,aN_bit (ks := r) (by simpa using h)]
  simp
theorem aN_set {ks : List Int} {k : Nat} {b : Int} (hb : b ≠ -1) (h : ks[k]? = some (-1)) : aN (ks.set k b) = aN ks ||| 2 ^ k := by
 apply Nat.eq_of_testBit_eq
 intro i
 have hk := ks_ex h
 rw [Nat.testBit_or,Nat.testBit_two_pow]
 by_cases hi : i < ks.length
 ·rw [aN_bit (by simpa using hi),aN_bit hi]
  by_cases e : k = i
  ·subst e
   rw [List.getElem?_set_self hk]
   simp [hb]
  ·rw [List.getElem?_set_ne e]
   simp [e]
 ·have l1 := aN_lt (ks.set k b)
  have l2 := aN_lt ks
  rw [List.length_set] at l1
  have p : 2 ^ ks.length ≤ 2 ^ i := Nat.pow_le_pow_right (by omega) (by omega)
  rw [Nat.testBit_lt_two_pow (by omega),Nat.testBit_lt_two_pow (by omega)]
  simp; omega
/-- how many ones there are,for small numbers -/
def pc (x : Nat) : Nat := x % 2 + x / 2 % 2 + x / 4 % 2 + x / 8 % 2 + x / 16 % 2
/-- what agrees,as a number -/
def lfW (ks : List Int) : BitVec 32 := agW ks 0 (4294967295#32)
theorem lfW_bit {ks : List Int} (hk : ks.all kOk = true) (hl : ks.length ≤ 5) {s : Nat} (hs : s < 32) : (lfW ks).getLsbD s = agB ks s := by
 unfold lfW
 rw [agW_bit hk (by omega) hs,ones_bit hs]
 simp
theorem lfW_non (m : Nat) (hm : m ≤ 5) : lfW (non m) = 4294967295#32 := by
 apply BitVec.eq_of_getLsbD_eq
 intro s hs
 rw [lfW_bit (non_all m) (by rw [non_len]; exact hm) hs,agB_non,ones_bit hs]
def syW (k : Nat) (b : Bool) : BitVec 32 := if b then yesW k else ~~~ yesW k
theorem lfW_set {ks : List Int} {k : Nat} (b : Bool) (hk : ks.all kOk = true) (hl : ks.length ≤ 5) (h : ks[k]? = some (-1)) : lfW (ks.set k (bI b)) = lfW ks &&& syW k b := by
 have hk5 := ks_ex h
 apply BitVec.eq_of_getLsbD_eq
 intro s hs
 have y := yes_bit ⟨k,by omega⟩ ⟨s,hs⟩
 simp only at y
 rw [lfW_bit (kOk_set hk k b) (by simpa using hl) hs,agB_put h,BitVec.getLsbD_and,lfW_bit hk hl hs]
 unfold syW
 cases b with
 | true => rw [if_pos rfl,y]; cases agB ks s <;> cases s.testBit k <;> rfl
 | false =>
  rw [if_neg (by simp),BitVec.getLsbD_not,y]
  cases agB ks s <;> cases s.testBit k <;> simp [hs]
theorem vaW_fcd {m : Nat} {t : List T} {ks : List Int} (h1 : tmOk m t = true) (hl : ks.length = m) (hk : ks.all kOk = true) : vaW (tsW t) (lfW ks) = foT m t ks := by
 obtain ⟨h3,_,_⟩ := tmOk_iff.1 h1
 exact vaW_foT h1 (ksOk_iff.2 ⟨h3,by omega,hk⟩)
end
section
abbrev Pts := List (Option (List Int))
def cTo (m : Nat) (t : List T) (pts : Pts) (p a : Int) (ks : List Int) : Option Pts :=
 if a = -1 ∨ fcd m t ks = true then (if a = -1 ∧ fcd m t ks = true then some pts else none)
 else if p + 1 ≤ a ∧ a ≤ (pts.length : Int) - 1 ∧ pts[a.toNat]? = some none then some (pts.set a.toNat (some ks)) else none
def rn1 (m : Nat) (t : List T) (pts : Pts) (p : Nat) (c : C3) : Option Pts :=
 match pts[p]? with
 | some (some ks) => if (0 ≤ c.1 ∧ c.1 < m) ∧ ks[c.1.toNat]? = some (-1) then
   (cTo m t pts p c.2.1 (ks.set c.1.toNat 0)).bind fun q => cTo m t q p c.2.2 (ks.set c.1.toNat 1) else none
 | _ => none
def rnA (m : Nat) (t : List T) : List C3 → Nat → Pts → Option Pts
 | [],_,pts => some pts
 | c :: r,p,pts => (rn1 m t pts p c).bind fun q => rnA m t r (p + 1) q
def rnS (m : Nat) (t : List T) (P : List C3) : Option Pts := (cTo m t (List.replicate P.length none) (-1) (rot P) (non m)).bind fun q => rnA m t P 0 q
theorem cTo_of {m : Nat} {t : List T} {pts q : Pts} {p a : Int} {ks : List Int} (hp : -1 ≤ p) (h : cTo m t pts p a ks = some q) :
  (a = -1 ∧ fcd m t ks = true ∧ q = pts) ∨ (fcd m t ks = false ∧ p + 1 ≤ a ∧ a ≤ (pts.length : Int) - 1 ∧ pts[a.toNat]? = some none ∧ q = pts.set a.toNat (some ks)) := by
 unfold cTo at h
 split at h
 ·split at h
  ·rename_i h1
   injection h with h
   exact .inl ⟨h1.1,h1.2,h.symm⟩
  ·cases h
 ·rename_i h1
  split at h
  ·rename_i h2
   injection h with h
   rw [not_or] at h1
   exact .inr ⟨by simpa using h1.2,h2.1,h2.2.1,h2.2.2,h.symm⟩
  ·cases h
theorem cTo_len {m : Nat} {t : List T} {pts q : Pts} {p a : Int} {ks : List Int} (hp : -1 ≤ p) (h : cTo m t pts p a ks = some q) : q.length = pts.length := by
 rcases cTo_of hp h with ⟨_,_,rfl⟩ | ⟨_,_,_,_,rfl⟩
 ·rfl
 ·simp
/-- what is there stays -/
theorem cTo_keep {m : Nat} {t : List T} {pts q : Pts} {p a : Int} {ks : List Int} (hp : -1 ≤ p) (h : cTo m t pts p a ks = some q) {b : Nat} {ls : List Int} (hb : pts[b]? = some (some ls)) : q[b]? = some (some ls) := by
 rcases cTo_of hp h with ⟨_,_,rfl⟩ | ⟨_,_,_,h4,rfl⟩
 ·exact hb
 ·rw [List.getElem?_set_ne]
  ·exact hb
  ·intro e
   rw [e,hb] at h4
   cases h4
/-- one goes on to where it is noted -/
def go3 (m : Nat) (t : List T) (N : Nat) (pts : Pts) (p : Int) (a : Int) (ks : List Int) : Prop :=
 (a = -1 ∧ fcd m t ks = true) ∨ (p + 1 ≤ a ∧ a ≤ (N : Int) - 1 ∧ pts[a.toNat]? = some (some ks))
theorem go3_of {m : Nat} {t : List T} {pts q : Pts} {p a : Int} {ks : List Int} (hp : -1 ≤ p) (h : cTo m t pts p a ks = some q) : go3 m t pts.length q p a ks := by
 rcases cTo_of hp h with ⟨h1,h2,rfl⟩ | ⟨h1,h2,h3,h4,rfl⟩
 ·exact .inl ⟨h1,h2⟩
 ·refine .inr ⟨h2,h3,?_⟩
  rw [List.getElem?_set_self (by omega)]
structure Inv (m : Nat) (t : List T) (P : List C3) (p : Nat) (pts : Pts) : Prop where
 len : pts.length = P.length
 nd : (rfs (P.take p)).Nodup
 rng : ∀ a ∈ rfs (P.take p),1 ≤ a ∧ a < P.length
 iff_ : ∀ a : Nat,a < P.length → (pts[a]? ≠ some none ↔ (a = 0 ∨ (a : Int) ∈ rfs (P.take p)))
 ok : ∀ (a : Nat) (ks : List Int),pts[a]? = some (some ks) → ks.length = m ∧ ks.all kOk = true ∧ fcd m t ks = false
 loc : ∀ q : Nat,q < p → ∃ (ks : List Int) (k no ye : Int),P[q]? = some (k,no,ye) ∧ pts[q]? = some (some ks) ∧ (0 ≤ k ∧ k < m) ∧ ks[k.toNat]? = some (-1) ∧ go3 m t P.length pts q no (ks.set k.toNat 0) ∧ go3 m t P.length pts q ye (ks.set k.toNat 1)
theorem go3_keep {m : Nat} {t : List T} {N : Nat} {pts q : Pts} {p a : Int} {ks : List Int} (hk : ∀ (b : Nat) (ls : List Int),pts[b]? = some (some ls) → q[b]? = some (some ls)) (h : go3 m t N pts p a ks) : go3 m t N q p a ks := by
 rcases h with h | ⟨h1,h2,h3⟩
 ·exact .inl h
 ·exact .inr ⟨h1,h2,hk _ _ h3⟩
/-- what one step adds to what is gone on to -/
def ad1 (a : Int) : List Int := if a = -1 then [] else [a]
theorem step_iff {m : Nat} {t : List T} {N : Nat} {pts q : Pts} {p a : Int} {ks : List Int} {R : List Int} (hp : 0 ≤ p) (hN : pts.length = N) (h : cTo m t pts p a ks = some q) (nd : R.Nodup) (rng : ∀ a ∈ R,1 ≤ a ∧ a < N)
  (hi : ∀ a : Nat,a < N → (pts[a]? ≠ some none ↔ (a = 0 ∨ (a : Int) ∈ R))) :
  (R ++ ad1 a).Nodup ∧ (∀ x ∈ R ++ ad1 a,1 ≤ x ∧ x < N) ∧ ∀ b : Nat,b < N → (q[b]? ≠ some none ↔ (b = 0 ∨ (b : Int) ∈ R ++ ad1 a)) := by
 rcases cTo_of (by omega) h with ⟨rfl,_,rfl⟩ | ⟨_,h2,h3,h4,rfl⟩
 ·have e : ad1 (-1) = [] := rfl
  rw [e,List.append_nil]
  exact ⟨nd,rng,hi⟩
 ·have e : ad1 a = [a] := if_neg (by omega)
  rw [e]
  have ha : a.toNat < N := by omega
  have hn : a ∉ R := fun hm => by
   have := (hi a.toNat ha).2 (.inr (by rw [Int.toNat_of_nonneg (by omega)]; exact hm))
   exact this h4
  refine ⟨List.nodup_append.2 ⟨nd,by simp,fun x hx y hy e => ?_⟩,fun x hx => ?_,fun b hb => ?_⟩
  ·have : y = a := by simpa using hy
   exact hn (by rw [← this,← e]; exact hx)
  ·rcases List.mem_append.1 hx with hx | hx
   ·exact rng x hx
   ·have : x = a := by simpa using hx
    omega
  ·by_cases eb : a.toNat = b
   ·subst eb
    rw [List.getElem?_set_self (by omega)]
    constructor
    ·intro _
     right
     rw [Int.toNat_of_nonneg (by omega)]
     simp
    ·intro _ h
     cases h
   ·rw [List.getElem?_set_ne eb,hi b hb]
    have : (b : Int) ≠ a := by omega
    simp [this]
theorem step_ok {m : Nat} {t : List T} {pts q : Pts} {p a : Int} {ks : List Int} (hp : -1 ≤ p) (h : cTo m t pts p a ks = some q) (hl : ks.length = m) (hk : ks.all kOk = true)
  (ho : ∀ (a : Nat) (ks : List Int),pts[a]? = some (some ks) → ks.length = m ∧ ks.all kOk = true ∧ fcd m t ks = false) :
  ∀ (a : Nat) (ks : List Int),q[a]? = some (some ks) → ks.length = m ∧ ks.all kOk = true ∧ fcd m t ks = false := by
 intro b ls hb
 rcases cTo_of hp h with ⟨_,_,rfl⟩ | ⟨h1,h2,h3,h4,rfl⟩
 ·exact ho b ls hb
 ·by_cases eb : a.toNat = b
  ·subst eb
   rw [List.getElem?_set_self (by omega)] at hb
   simp only [Option.some.injEq] at hb
   subst hb
   exact ⟨hl,hk,h1⟩
  ·rw [List.getElem?_set_ne eb] at hb
   exact ho b ls hb
theorem rfs_snoc (P : List C3) (k no ye : Int) : rfs (P ++ [(k,no,ye)]) = rfs P ++ ad1 no ++ ad1 ye := by
 rw [rfs_app]
 simp only [rfs,List.append_nil]
 unfold ad1
 rw [List.append_assoc]
theorem take_snoc {P : List C3} {p : Nat} {c : C3} (h : P[p]? = some c) : P.take (p + 1) = P.take p ++ [c] := by
 rw [List.take_add_one,h]
 rfl
theorem inv_step {m : Nat} {t : List T} {P : List C3} {p : Nat} {pts q : Pts} {c : C3} (hc : P[p]? = some c) (h : Inv m t P p pts) (hr : rn1 m t pts p c = some q) : Inv m t P (p + 1) q := by
 obtain ⟨k,no,ye⟩ := c
 unfold rn1 at hr
 split at hr
 ·rename_i ks hks
  split at hr
  ·rename_i hk
   simp only [Option.bind_eq_some_iff] at hr
   obtain ⟨q1,h1,h2⟩ := hr
   obtain ⟨o1,o2,o3⟩ := h.ok p ks hks
   have hp : (0 : Int) ≤ p := by omega
   have l1 := cTo_len (by omega) h1
   have l2 := cTo_len (by omega) h2
   have k0 : (ks.set k.toNat 0).all kOk = true := kOk_set o2 k.toNat false
   have k1 : (ks.set k.toNat 1).all kOk = true := kOk_set o2 k.toNat true
   obtain ⟨n1,r1,i1⟩ := step_iff hp h.len h1 h.nd h.rng h.iff_
   obtain ⟨n2,r2,i2⟩ := step_iff hp (l1.trans h.len) h2 n1 r1 i1
   have ok1 := step_ok (by omega) h1 (by simpa using o1) k0 h.ok
   have ok2 := step_ok (by omega) h2 (by simpa using o1) k1 ok1
   have kp : ∀ (b : Nat) (ls : List Int),pts[b]? = some (some ls) → q[b]? = some (some ls) := fun b ls hb => cTo_keep (by omega) h2 (cTo_keep (by omega) h1 hb)
   refine ⟨(l2.trans l1).trans h.len,?_,?_,?_,ok2,fun j hj => ?_⟩
   ·rw [take_snoc hc,rfs_snoc]; exact n2
   ·rw [take_snoc hc,rfs_snoc]; exact r2
   ·rw [take_snoc hc,rfs_snoc]; exact i2
   ·by_cases e : j = p
    ·subst e
     have g1 := go3_of (by omega) h1
     have g2 := go3_of (by omega) h2
     rw [h.len] at g1
     rw [l1,h.len] at g2
     exact ⟨ks,k,no,ye,hc,kp _ _ hks,hk.1,hk.2,go3_keep (fun b ls hb => cTo_keep (by omega) h2 hb) g1,g2⟩
    ·obtain ⟨ks',k',no',ye',a1,a2,a3,a4,a5,a6⟩ := h.loc j (by omega)
     exact ⟨ks',k',no',ye',a1,kp _ _ a2,a3,a4,go3_keep kp a5,go3_keep kp a6⟩
  ·cases hr
 ·cases hr
theorem inv_all {m : Nat} {t : List T} {P : List C3} : ∀ (rest : List C3) (p : Nat) (pts q : Pts),P.drop p = rest → p ≤ P.length → Inv m t P p pts → rnA m t rest p pts = some q → Inv m t P P.length q
 | [],p,pts,q,hd,hp,h,hr => by
  have : P.length ≤ p := List.drop_eq_nil_iff.1 hd
  have e : p = P.length := by omega
  subst e
  simp only [rnA,Option.some.injEq] at hr
  subst hr
  exact h
 | c :: r,p,pts,q,hd,hp,h,hr => by
  simp only [rnA,Option.bind_eq_some_iff] at hr
  obtain ⟨q1,h1,h2⟩ := hr
  have hc : P[p]? = some c := by
   have : (P.drop p)[0]? = some c := by rw [hd]; rfl
   rw [List.getElem?_drop,Nat.add_zero] at this
   exact this
  have hlt : p < P.length := (List.getElem?_eq_some_iff.1 hc).1
  have hd' : P.drop (p + 1) = r := by
   rw [← List.drop_drop,hd]
   rfl
  exact inv_all r (p + 1) q1 q hd' (by omega) (inv_step hc h h1) h2
theorem inv_start {m : Nat} {t : List T} {P : List C3} {q : Pts} (h : cTo m t (List.replicate P.length none) (-1) (rot P) (non m) = some q) : Inv m t P 0 q ∧ go3 m t P.length q (-1) (rot P) (non m) := by
 have g := go3_of (by omega) h
 have l := cTo_len (by omega) h
 rw [List.length_replicate] at g l
 have ok := step_ok (by omega) h (non_len m) (non_all m) (fun a ks ha => by
  rw [List.getElem?_replicate] at ha
  split at ha <;> cases ha)
 refine ⟨⟨l,by simp [rfs],by simp [rfs],fun a ha => ?_,ok,fun j hj => by omega⟩,g⟩
 have hP : P ≠ [] := fun e => by subst e; simp at ha
 have r0 : rot P = 0 := if_neg hP
 rcases cTo_of (by omega) h with ⟨h1,_,_⟩ | ⟨_,_,_,_,rfl⟩
 ·omega
 ·rw [r0]
  simp only [List.take_zero,rfs,List.not_mem_nil,or_false,Int.toNat_zero]
  by_cases e : a = 0
  ·subst e
   rw [List.getElem?_set_self (by simpa using ha)]
   simp
  ·rw [List.getElem?_set_ne (by omega),List.getElem?_replicate,if_pos ha]
   simp [e]
theorem inv_tree {m : Nat} {t : List T} {P : List C3} {pts : Pts} (h : Inv m t P P.length pts) : ∀ (n a : Nat) (ks : List Int),P.length - a ≤ n → pts[a]? = some (some ks) → ∃ L,enc P (a : Int) L ∧ okT m t ks L.er
 | 0,a,ks,hn,ha => by
  have := (List.getElem?_eq_some_iff.1 ha).1
  rw [h.len] at this
  omega
 | n + 1,a,ks,hn,ha => by
  have hlt := (List.getElem?_eq_some_iff.1 ha).1
  rw [h.len] at hlt
  obtain ⟨ks',k,no,ye,a1,a2,a3,a4,a5,a6⟩ := h.loc a hlt
  rw [ha] at a2
  simp only [Option.some.injEq] at a2
  subst a2
  obtain ⟨_,_,o3⟩ := h.ok a ks ha
  have key : ∀ (b : Int) (ls : List Int),go3 m t P.length pts a b ls → ∃ L,enc P b L ∧ okT m t ls L.er ∧ nxt P.length a b := fun b ls g => by
   rcases g with ⟨rfl,g⟩ | ⟨g1,g2,g3⟩
   ·exact ⟨.stop,rfl,g,.inl rfl⟩
   ·obtain ⟨L,l1,l2⟩ := inv_tree h n b.toNat ls (by omega) g3
    rw [Int.toNat_of_nonneg (by omega)] at l1
    exact ⟨L,l1,l2,.inr ⟨g1,g2⟩⟩
  obtain ⟨L0,e0,k0,x0⟩ := key no _ a5
  obtain ⟨L1,e1,k1,x1⟩ := key ye _ a6
  exact ⟨.ask a k.toNat L0 L1,⟨rfl,no,ye,by rw [a1,Int.toNat_of_nonneg a3.1],x0,x1,e0,e1⟩,⟨o3,a4,k0,k1⟩⟩
theorem rcn_ge {P : List C3} {a q : Nat} {d : C3} (hq : P[q]? = some d) (hd : d.2.1 = (a : Int) ∨ d.2.2 = (a : Int)) : ∀ {L : LT},L.cnt q ≤ L.rcn P a
 | .stop => Nat.le_refl _
 | .ask p k n y => by
  have c0 := rcn_ge hq hd (L := n)
  have c1 := rcn_ge hq hd (L := y)
  simp only [LT.rcn,LT.cnt]
  by_cases e : p = q
  ·subst e
   rw [if_pos rfl,hq]
   simp only [Option.map_some,Option.some.injEq]
   rcases hd with hd | hd
   ·rw [if_pos hd]; omega
   ·rw [if_pos hd]; omega
  ·rw [if_neg e]; omega
theorem sN_one : ∀ {f : Nat → Nat} {n : Nat},(∀ a,a < n → f a = 1) → sN f n = n
 | f,0,_ => rfl
 | f,n + 1,h => by
  simp only [sN]
  rw [sN_one (f := f) (n := n) (fun a ha => h a (by omega)),h n (by omega)]
theorem inv_pl {m : Nat} {t : List T} {P : List C3} {pts : Pts} (h31 : P.length ≤ 31) (h : Inv m t P P.length pts) (hg : go3 m t P.length pts (-1) (rot P) (non m)) : ∃ L,isPl m t P L := by
 have nd := h.nd
 have rng := h.rng
 have hi := h.iff_
 rw [List.take_length] at nd rng hi
 have ht : ∃ L,enc P (rot P) L ∧ okT m t (non m) L.er := by
  rcases hg with ⟨g1,g2⟩ | ⟨g1,g2,g3⟩
  ·rw [g1]; exact ⟨.stop,rfl,g2⟩
  ·obtain ⟨L,l1,l2⟩ := inv_tree h P.length (rot P).toNat (non m) (by omega) g3
   rw [Int.toNat_of_nonneg (by omega)] at l1
   exact ⟨L,l1,l2⟩
 obtain ⟨L,e,ok⟩ := ht
 have all1 : ∀ a,a < P.length → 0 < L.cnt a := by
  intro a
  induction a using Nat.strongRecOn with
  | ind a ih =>
   intro ha
   have r := cnt_root (a := a) e
   by_cases a0 : a = 0
   ·subst a0
    have : rot P = 0 := if_neg (fun e => by subst e; simp at ha)
    rw [this] at r
    simp at r
    omega
   ·obtain ⟨ks,k,no,ye,_,a2,_⟩ := h.loc a ha
    have hm := (hi a ha).1 (by rw [a2]; simp)
    rcases hm with hm | hm
    ·exact absurd hm a0
    ·obtain ⟨_,q,d,d1,d2⟩ := rfs_mem.1 hm
     obtain ⟨ks',k',no',ye',b1,b2,b3,b4,b5,b6⟩ := h.loc q (List.getElem?_eq_some_iff.1 d1).1
     rw [d1] at b1
     simp only [Option.some.injEq] at b1
     subst b1
     have hqa : q < a := by
      rcases d2 with d2 | d2
      ·simp only at d2
       subst d2
       rcases b5 with ⟨b,_⟩ | ⟨b,_⟩ <;> omega
      ·simp only at d2
       subst d2
       rcases b6 with ⟨b,_⟩ | ⟨b,_⟩ <;> omega
     have c := ih q hqa (by omega)
     have g := rcn_ge d1 d2 (L := L)
     omega
 have le1 := cnt_le nd e
 refine ⟨L,e,ok,?_,⟨nd,fun a ha => by have := rng a ha; omega⟩,h31⟩
 rw [← size_sN e]
 exact sN_one fun a ha => by have := all1 a ha; have := le1 a; omega
theorem cTo_some {m : Nat} {t : List T} {pts : Pts} {p a : Int} {ks : List Int} (h : (a = -1 ∧ fcd m t ks = true) ∨ (a ≠ -1 ∧ fcd m t ks = false ∧ p + 1 ≤ a ∧ a ≤ (pts.length : Int) - 1 ∧ pts[a.toNat]? = some none)) : ∃ q,cTo m t pts p a ks = some q := by
 unfold cTo
 rcases h with ⟨h1,h2⟩ | ⟨h1,h2,h3⟩
 ·exact ⟨pts,by rw [if_pos (.inl h1),if_pos ⟨h1,h2⟩]⟩
 ·exact ⟨_,by rw [if_neg (by rw [h2]; rintro (h | h); exact h1 h; cases h),if_pos h3]⟩
/-- what is noted is come to by the tree -/
def CIv (m : Nat) (t : List T) (P : List C3) (pts : Pts) : Prop := ∀ (a : Nat) (ks : List Int),pts[a]? = some (some ks) → ∃ M,enc P (a : Int) M ∧ okT m t ks M.er
theorem civ_step {m : Nat} {t : List T} {P : List C3} {pts q : Pts} {p a : Int} {ks : List Int} (hp : -1 ≤ p) (h : cTo m t pts p a ks = some q) (hc : CIv m t P pts) {M : LT} (hM : enc P a M) (hk : okT m t ks M.er) : CIv m t P q := by
 intro b ls hb
 rcases cTo_of hp h with ⟨_,_,rfl⟩ | ⟨h1,h2,h3,h4,rfl⟩
 ·exact hc b ls hb
 ·by_cases eb : a.toNat = b
  ·subst eb
   rw [List.getElem?_set_self (by omega)] at hb
   simp only [Option.some.injEq] at hb
   subst hb
   rw [Int.toNat_of_nonneg (by omega)]
   exact ⟨M,hM,hk⟩
  ·rw [List.getElem?_set_ne eb] at hb
   exact hc b ls hb
theorem go_some {m : Nat} {t : List T} {P : List C3} {pts : Pts} {p : Nat} {a : Int} {ks : List Int} {M : LT} (hM : enc P a M) (hk : okT m t ks M.er) (hn : nxt P.length p a) (hl : pts.length = P.length) (hf : a ≠ -1 → pts[a.toNat]? = some none) : ∃ q,cTo m t pts p a ks = some q := by
 apply cTo_some
 cases M with
 | stop => exact .inl ⟨hM,hk⟩
 | ask p' k n y =>
  obtain ⟨e,_⟩ := hM
  obtain ⟨o1,_⟩ := hk
  have ha : a ≠ -1 := by omega
  rcases hn with hn | hn
  ·exact absurd hn ha
  ·exact .inr ⟨ha,o1,hn.1,by rw [hl]; exact hn.2,hf ha⟩
theorem none_of {pts : Pts} {a : Nat} (h : a < pts.length) (hn : ¬ pts[a]? ≠ some none) : pts[a]? = some none := Classical.not_not.1 hn
theorem pl_step {m : Nat} {t : List T} {P : List C3} {L : LT} (hL : isPl m t P L) {p : Nat} {c : C3} (hc : P[p]? = some c) {pts : Pts} (h : Inv m t P p pts) (hv : CIv m t P pts) : ∃ q,rn1 m t pts p c = some q ∧ CIv m t P q := by
 have hlt : p < P.length := (List.getElem?_eq_some_iff.1 hc).1
 have nd := hL.on.1
 -- it has been come to
 have hin : p = 0 ∨ (p : Int) ∈ rfs (P.take p) := by
  by_cases p0 : p = 0
  ·exact .inl p0
  ·right
   have c1 := all_in nd hL.e hL.sz p hlt
   have r := cnt_root (a := p) hL.e
   have rp : ¬ rot P = (p : Int) := by
    unfold rot
    split <;> omega
   rw [if_neg rp] at r
   obtain ⟨q,d,q1,q2,q3⟩ := rcn_pos hL.e (a := p) (by omega)
   refine rfs_mem.2 ⟨by omega,q,d,?_,q2⟩
   rw [List.getElem?_take,if_pos q3]
   exact q1
 have hne := (h.iff_ p hlt).2 hin
 cases hpp : pts[p]? with
 | none =>
  rw [List.getElem?_eq_none_iff,h.len] at hpp
  omega
 | some o =>
  cases o with
  | none => exact absurd hpp hne
  | some ks =>
   obtain ⟨M,m1,m2⟩ := hv p ks hpp
   obtain ⟨o1,o2,o3⟩ := h.ok p ks hpp
   cases M with
   | stop =>
    have m1 : (p : Int) = -1 := m1
    omega
   | ask p' k n y =>
    obtain ⟨e,no,ye,d1,d2,d3,d4,d5⟩ := m1
    obtain ⟨u1,u2,u3,u4⟩ := m2
    have ep : p = p' := by omega
    subst ep
    rw [hc] at d1
    simp only [Option.some.injEq] at d1
    subst d1
    have hk : k < m := by rw [← o1]; exact ks_ex u2
    have ndp : (rfs (P.take p) ++ ad1 no ++ ad1 ye).Nodup := by
     rw [← rfs_snoc _ (k : Int),← take_snoc hc]
     have : rfs P = rfs (P.take (p + 1)) ++ rfs (P.drop (p + 1)) := by rw [← rfs_app,List.take_append_drop]
     rw [this] at nd
     exact (List.nodup_append.1 nd).1
    obtain ⟨nd1,_,nd3⟩ := List.nodup_append.1 ndp
    obtain ⟨_,_,nd2⟩ := List.nodup_append.1 nd1
    have free0 : no ≠ -1 → pts[no.toNat]? = some none := fun hno => by
     have hr : (p : Int) + 1 ≤ no ∧ no ≤ (P.length : Int) - 1 := d2.resolve_left hno
     refine none_of (by rw [h.len]; omega) (fun hx => ?_)
     rcases (h.iff_ no.toNat (by omega)).1 hx with h0 | h0
     ·omega
     ·rw [Int.toNat_of_nonneg (by omega)] at h0
      exact nd2 no h0 no (by unfold ad1; rw [if_neg hno]; simp) rfl
    obtain ⟨q1,c1⟩ := go_some (p := p) d4 u3 d2 h.len free0
    have iv1 := step_iff (by omega) h.len c1 h.nd h.rng h.iff_
    have l1 := cTo_len (by omega) c1
    have free1 : ye ≠ -1 → q1[ye.toNat]? = some none := fun hye => by
     have hr : (p : Int) + 1 ≤ ye ∧ ye ≤ (P.length : Int) - 1 := d3.resolve_left hye
     refine none_of (by rw [l1,h.len]; omega) (fun hx => ?_)
     rcases (iv1.2.2 ye.toNat (by omega)).1 hx with h0 | h0
     ·omega
     ·rw [Int.toNat_of_nonneg (by omega)] at h0
      exact nd3 ye h0 ye (by unfold ad1; rw [if_neg hye]; simp) rfl
    obtain ⟨q2,c2⟩ := go_some (p := p) d5 u4 d3 (l1.trans h.len) free1
    refine ⟨q2,?_,civ_step (by omega) c2 (civ_step (by omega) c1 hv d4 u3) d5 u4⟩
    unfold rn1
    rw [hpp]
    simp only [Int.toNat_natCast]
    rw [if_pos ⟨⟨by omega,by omega⟩,u2⟩,c1]
    exact c2
theorem pl_all {m : Nat} {t : List T} {P : List C3} {L : LT} (hL : isPl m t P L) : ∀ (rest : List C3) (p : Nat) (pts : Pts),P.drop p = rest → p ≤ P.length → Inv m t P p pts → CIv m t P pts → ∃ q,rnA m t rest p pts = some q
 | [],p,pts,_,_,_,_ => ⟨pts,rfl⟩
 | c :: r,p,pts,hd,hp,h,hv => by
  have hc : P[p]? = some c := by
   have : (P.drop p)[0]? = some c := by rw [hd]; rfl
   rw [List.getElem?_drop,Nat.add_zero] at this
   exact this
  have hlt : p < P.length := (List.getElem?_eq_some_iff.1 hc).1
  have hd' : P.drop (p + 1) = r := by
   rw [← List.drop_drop,hd]
   rfl
  obtain ⟨q1,h1,h2⟩ := pl_step hL hc h hv
  obtain ⟨q,h3⟩ := pl_all hL r (p + 1) q1 hd' (by omega) (inv_step hc h h1) h2
  exact ⟨q,by simp only [rnA]; rw [h1]; exact h3⟩
theorem rnA_keep {m : Nat} {t : List T} : ∀ (rest : List C3) (p : Nat) (a b : Pts),rnA m t rest p a = some b → ∀ (x : Nat) (ls : List Int),a[x]? = some (some ls) → b[x]? = some (some ls) := by
 intro rest
 induction rest with
 | nil =>
  intro p a b h x ls hx
  simp only [rnA,Option.some.injEq] at h
  subst h
  exact hx
 | cons c r ih =>
  intro p a b h x ls hx
  simp only [rnA,Option.bind_eq_some_iff] at h
  obtain ⟨a1,e1,e2⟩ := h
  refine ih (p + 1) a1 b e2 x ls ?_
  unfold rn1 at e1
  split at e1
  ·split at e1
   ·simp only [Option.bind_eq_some_iff] at e1
    obtain ⟨a2,f1,f2⟩ := e1
    exact cTo_keep (by omega) f2 (cTo_keep (by omega) f1 hx)
   ·cases e1
  ·cases e1
theorem rn_keep {m : Nat} {t : List T} {N : Nat} {x a : Int} {ks : List Int} (rest : List C3) (p : Nat) (q0 q : Pts) (h : rnA m t rest p q0 = some q) (g : go3 m t N q0 x a ks) : go3 m t N q x a ks := go3_keep (rnA_keep rest p q0 q h) g
theorem rnS_iff {m : Nat} {t : List T} {P : List C3} (h31 : P.length ≤ 31) : (∃ q,rnS m t P = some q) ↔ ∃ L,isPl m t P L := by
 constructor
 ·rintro ⟨q,h⟩
  unfold rnS at h
  simp only [Option.bind_eq_some_iff] at h
  obtain ⟨q0,h1,h2⟩ := h
  obtain ⟨i,g⟩ := inv_start h1
  have i2 := inv_all P 0 q0 q rfl (Nat.zero_le _) i h2
  refine inv_pl h31 i2 ?_
  exact rn_keep P 0 q0 q h2 g
 ·rintro ⟨L,hL⟩
  unfold rnS
  have hs : ∃ q,cTo m t (List.replicate P.length none) (-1) (rot P) (non m) = some q := by
   apply cTo_some
   have he := hL.e
   have hk := hL.ok
   cases L with
   | stop => exact .inl ⟨he,hk⟩
   | ask p k n y =>
    obtain ⟨e,no,ye,d1,_⟩ := he
    have hlt : p < P.length := (List.getElem?_eq_some_iff.1 d1).1
    have r0 : rot P = 0 := if_neg (fun e => by subst e; simp at hlt)
    refine .inr ⟨by omega,hk.1,by omega,by rw [List.length_replicate]; omega,?_⟩
    rw [r0,List.getElem?_replicate,if_pos (by simp; omega)]
  obtain ⟨q0,h1⟩ := hs
  obtain ⟨i,g⟩ := inv_start h1
  have cv : CIv m t P q0 := civ_step (by omega) h1 (fun a ks ha => by
   rw [List.getElem?_replicate] at ha
   split at ha <;> cases ha) hL.e hL.ok
  obtain ⟨q,h2⟩ := pl_all hL P 0 q0 rfl (Nat.zero_le _) i cv
  exact ⟨q,by rw [h1]; exact h2⟩
end
section
attribute [-simp] DV.cells
attribute [local simp] sliceD cells_st cells_sl cells_i cells_y cells_b cells_s cells_w
attribute [local simp] lend_e3 adopt_e3 new_e3 al_e3 lt_e3
def pv (m a : Int) (w v : BitVec 32) : DV := .st [.i m,.i a,.w w,.w v]
/-- the point at which so much is known -/
def pD (m : Nat) (t : List T) (ks : List Int) : DV := pv m (aN ks) (lfW ks) (tsW t)
theorem c_value {m : Nat} {t : List T} {ks : List Int} (h1 : tmOk m t = true) (hl : ks.length = m) (hk : ks.all kOk = true) : call lf n_impl_point_value [pD m t ks] = some (.i (foT m t ks),[]) := by
 have C := c_impl_valueAmong (tsW t) (lfW ks)
 rw [vaW_fcd h1 hl hk] at C
 unfold pD pv
 rw [call_k lf n_impl_point_value _ (F := F_impl_point_value) rfl rfl]
 simp [F_impl_point_value,C]
theorem c_isForced {m : Nat} {t : List T} {ks : List Int} (h1 : tmOk m t = true) (hl : ks.length = m) (hk : ks.all kOk = true) : call lf n_impl_point_isForced [pD m t ks] = some (.b (fcd m t ks),[]) := by
 have C := c_value h1 hl hk
 unfold pD pv at *
 rw [call_k lf n_impl_point_isForced _ (F := F_impl_point_isForced) rfl rfl]
 unfold fcd
 simp [F_impl_point_isForced,C]
/-- may it be asked? -/
def caK (m : Nat) (ks : List Int) (a : Int) : Bool := decide (0 ≤ a ∧ a < m) && decide (ks[a.toNat]? = some (-1))
theorem c_canAsk {m : Nat} {t : List T} {ks : List Int} (hm : m ≤ 5) (hl : ks.length = m) (a : Int) : call lf n_impl_point_canAsk [pD m t ks,.i a] = some (.b (caK m ks a),[]) := by
 have W := c_impl_isWithin a 0 ((m : Int) - 1)
 have w1 : wr ((m : Int) - 1) = (m : Int) - 1 := wr_id (by omega) (by omega)
 unfold pD pv
 rw [call_k lf n_impl_point_canAsk _ (F := F_impl_point_canAsk) rfl rfl]
 unfold caK
 by_cases h : 0 ≤ a ∧ a < m
 ·obtain ⟨k,rfl⟩ := Int.eq_ofNat_of_zero_le h.1
  have e : decide (0 ≤ (k : Int) ∧ (k : Int) ≤ (m : Int) - 1) = true := decide_eq_true ⟨h.1,by omega⟩
  have H := c_impl_hasTest (aN ks) k (by omega)
  have hb := aN_bit (ks := ks) (i := k) (by omega)
  rw [hb] at H
  rw [e] at W
  rw [decide_eq_true h,Int.toNat_natCast]
  generalize aN ks = x at *
  generalize lfW ks = y at *
  simp [F_impl_point_canAsk,w1,W,H]
 ·have e : decide (0 ≤ a ∧ a ≤ (m : Int) - 1) = false := decide_eq_false (by omega)
  rw [e] at W
  rw [decide_eq_false h]
  simp [F_impl_point_canAsk,w1,W]
/-- nowhere nothing may be asked -/
theorem c_canAsk0 (a : Int) : call lf n_impl_point_canAsk [pv 0 0 (0#32) (0#32),.i a] = some (.b false,[]) := by
 have W := c_impl_isWithin a 0 (-1)
 have e : decide (0 ≤ a ∧ a ≤ -1) = false := decide_eq_false (by omega)
 rw [e] at W
 have w1 : wr (-1) = -1 := wr_id (by omega) (by omega)
 unfold pv
 rw [call_k lf n_impl_point_canAsk _ (F := F_impl_point_canAsk) rfl rfl]
 simp [F_impl_point_canAsk,w1,W]
theorem c_answered {m : Nat} {t : List T} {ks : List Int} {k : Nat} (b : Bool) (hl : ks.length ≤ 5) (hk : ks.all kOk = true) (h : ks[k]? = some (-1)) : call lf n_impl_point_answered [pD m t ks,.i k,.i (bI b)] = some (pD m t (ks.set k (bI b)),[]) := by
 have hlt := ks_ex h
 have C := c_impl_statesSaying (k := k) (by omega) (bI b)
 have e1 : syI k (bI b) = syW k b := by cases b <;> rfl
 rw [e1] at C
 have sh := shl1 (k := (k : Int)) (by omega) (by omega)
 have nk : ¬ (k : Int) < 0 := by omega
 have l := aN_lt ks
 have p : 2 ^ ks.length ≤ 2 ^ 5 := Nat.pow_le_pow_right (by omega) hl
 have p2 : 2 ^ k ≤ 2 ^ 5 := Nat.pow_le_pow_right (by omega) (by omega)
 have o := orI_nat (a := aN ks) (b := 2 ^ k) (by omega) (by omega)
 rw [← aN_set (b := bI b) (by cases b <;> simp [bI]) h] at o
 have e2 := lfW_set b hk hl h
 unfold pD pv
 rw [call_k lf n_impl_point_answered _ (F := F_impl_point_answered) rfl rfl]
 rw [e2]
 have o' : orI (aN ks) (2 ^ k) = aN (ks.set k (bI b)) := by
  have : ((2 ^ k : Nat) : Int) = 2 ^ k := by simp
  rw [← this]; exact o
 rw [Int.toNat_natCast] at sh
 generalize aN (ks.set k (bI b)) = x at *
 generalize aN ks = y at *
 generalize lfW ks = z at *
 generalize (2 : Int) ^ k = w at *
 simp [F_impl_point_answered,C,sh,nk,o']
theorem c_startOf {m : Nat} {t : List T} (hm : m ≤ 5) (h : tmOk m t = true) : call lf n_impl_startOf [.i m,.sl 0 (t.map e2)] = some (pD m t (non m),[]) := by
 have C := c_impl_trueStates h
 unfold pD pv
 rw [aN_non,lfW_non m hm]
 rw [call_k lf n_impl_startOf _ (F := F_impl_startOf) rfl rfl]
 simp [F_impl_startOf,C]
theorem c_firstOf (P : List C3) (h : (P.length : Int) < 1099511627776) : call lf n_impl_firstOf [.sl 0 (P.map e3)] = some (.i (rot P),[]) := by
 rw [call_k lf n_impl_firstOf _ (F := F_impl_firstOf) rfl rfl]
 unfold rot
 cases P with
 | nil => simp [F_impl_firstOf]
 | cons c r =>
  have e : (((r.length : Int) + 1) == 0) = false := beq_eq_false_iff_ne.2 (by omega)
  simp [F_impl_firstOf,e]
end
section
attribute [-simp] DV.cells
attribute [local simp] sliceD cells_st cells_sl cells_i cells_y cells_b cells_s cells_w
attribute [local simp] lend_e3 adopt_e3 new_e3 al_e3 lt_e3
def e4 (m : Nat) (t : List T) : Option (List Int) → DV
 | some ks => pD m t ks
 | none => pv 0 0 (0#32) (0#32)
theorem e4_st (m : Nat) (t : List T) (o : Option (List Int)) : ∃ (a b : Int) (w v : BitVec 32),e4 m t o = .st [.i a,.i b,.w w,.w v] := by
 cases o with
 | none => exact ⟨_,_,_,_,rfl⟩
 | some ks => exact ⟨_,_,_,_,rfl⟩
theorem e4_lend (m : Nat) (t : List T) (o : Option (List Int)) : (e4 m t o).lend = e4 m t o := by
 obtain ⟨a,b,w,v,e⟩ := e4_st m t o
 rw [e]; rfl
theorem e4_adopt (m : Nat) (t : List T) (o : Option (List Int)) (x : Bool) : (e4 m t o).adopt x = e4 m t o := by
 obtain ⟨a,b,w,v,e⟩ := e4_st m t o
 rw [e]; rfl
theorem e4_cells (m : Nat) (t : List T) (o : Option (List Int)) : (e4 m t o).cells.length = 4 := by
 obtain ⟨a,b,w,v,e⟩ := e4_st m t o
 rw [e]; rfl
theorem lend_e4 (m : Nat) (t : List T) (P : Pts) : lendL (P.map (e4 m t)) = P.map (e4 m t) := by
 rw [lendL_map,List.map_map]
 exact List.map_congr_left fun o _ => e4_lend m t o
theorem adopt_e4 (m : Nat) (t : List T) (x : Bool) (P : Pts) : adoptL x (P.map (e4 m t)) = P.map (e4 m t) := by
 rw [adoptL_map,List.map_map]
 exact List.map_congr_left fun o _ => e4_adopt m t o x
theorem new_e4 (m : Nat) (t : List T) (P : Pts) : allNewL (P.map (e4 m t)) = true := by
 rw [allNewL_all,List.all_map,List.all_eq_true]
 intro o _
 obtain ⟨a,b,w,v,e⟩ := e4_st m t o
 show (e4 m t o).allNew = true
 rw [e]; rfl
theorem wid_e4 (m : Nat) (t : List T) (P : Pts) : ∀ e ∈ P.map (e4 m t),e.cells.length = 4 := fun e he => by
 obtain ⟨o,_,rfl⟩ := List.mem_map.1 he
 exact e4_cells m t o
theorem atN_e4 {m : Nat} {t : List T} {P : Pts} {p : Nat} {o : Option (List Int)} (h : P[p]? = some o) : atN (P.map (e4 m t)) p = some (e4 m t o) := by
 show (P.map (e4 m t))[p]? = _
 rw [List.getElem?_map,h]; rfl
/-- what comesTo answers,and what it leaves of the row -/
def ctR (m : Nat) (t : List T) (pts : Pts) : Option Pts → DV × List DV
 | some q => (.b true,[.fr 4 (q.map (e4 m t))])
 | none => (.b false,[.fr 4 (pts.map (e4 m t))])
set_option maxHeartbeats 4000000 in
theorem c_comesTo {m : Nat} {t : List T} {pts : Pts} {p a : Int} {ks : List Int} (h1 : tmOk m t = true) (hl : ks.length = m) (hk : ks.all kOk = true) (hp : -1 ≤ p ∧ p ≤ 100) (hn : pts.length ≤ 40) :
  call lf n_impl_comesTo [.fr 4 (pts.map (e4 m t)),.i p,.i a,pD m t ks] = some (ctR m t pts (cTo m t pts p a ks)) := by
 obtain ⟨h3,_,_⟩ := tmOk_iff.1 h1
 have F := c_isForced h1 hl hk
 have W := c_impl_isWithin a (p + 1) ((pts.length : Int) - 1)
 have w1 : wr (p + 1) = p + 1 := wr_id (by omega) (by omega)
 have w2 : wr ((pts.length : Int) - 1) = (pts.length : Int) - 1 := wr_id (by omega) (by omega)
 have len : (pts.map (e4 m t)).length = pts.length := by simp
 have wid := wid_e4 m t pts
 have ad := fun x => adopt_e4 m t x pts
 rw [call_k lf n_impl_comesTo _ (F := F_impl_comesTo) rfl rfl]
 unfold cTo
 by_cases ha : a = -1
 ·subst ha
  unfold pD pv at *
  cases hf : fcd m t ks with
  | true =>
   rw [hf] at F
   rw [if_pos (.inl rfl),if_pos ⟨rfl,rfl⟩]
   simp only [ctR]
   generalize pts.map (e4 m t) = M at *
   simp [F_impl_comesTo,F,len]
  | false =>
   rw [hf] at F
   rw [if_pos (.inl rfl),if_neg (by simp)]
   simp only [ctR]
   generalize pts.map (e4 m t) = M at *
   simp [F_impl_comesTo,F,len]
 ·have na : (a == -1) = false := beq_eq_false_iff_ne.2 ha
  cases hf : fcd m t ks with
  | true =>
   rw [hf] at F
   rw [if_pos (.inr rfl),if_neg (fun h => ha h.1)]
   simp only [ctR]
   unfold pD pv at *
   generalize pts.map (e4 m t) = M at *
   simp [F_impl_comesTo,F,na,len]
  | false =>
   rw [hf] at F
   rw [if_neg (by simp [ha])]
   by_cases hw : p + 1 ≤ a ∧ a ≤ (pts.length : Int) - 1
   ·rw [decide_eq_true hw] at W
    obtain ⟨n,rfl⟩ := Int.eq_ofNat_of_zero_le (a := a) (by omega)
    rw [Int.toNat_natCast]
    have hlt : n < pts.length := by omega
    have hlt' : (n : Int) < pts.length := by omega
    obtain ⟨o,ho⟩ : ∃ o,pts[n]? = some o := ⟨pts[n],List.getElem?_eq_getElem hlt⟩
    have A := atN_e4 (m := m) (t := t) ho
    cases o with
    | none =>
     rw [if_pos ⟨hw.1,hw.2,ho⟩]
     simp only [ctR]
     have e : (pts.set n (some ks)).map (e4 m t) = (pts.map (e4 m t)).set n (pD m t ks) := by rw [List.map_set]; rfl
     rw [e]
     simp only [e4] at A
     unfold pD pv at *
     have z1 : ((0 : Int) == 0) = true := rfl
     have z2 : ((0#32 : BitVec 32) == 0#32) = true := rfl
     generalize pts.map (e4 m t) = M at *
     generalize pts.length = N at *
     simp [F_impl_comesTo,F,na,w1,w2,W,len,hlt,hlt',A,eqI]
    | some ls =>
     rw [if_neg (by rw [ho]; rintro ⟨_,_,h⟩; cases h)]
     simp only [ctR]
     simp only [e4] at A
     unfold pD pv at *
     have m0 : ((m : Int) == 0) = false := beq_eq_false_iff_ne.2 (by omega)
     generalize pts.map (e4 m t) = M at *
     generalize pts.length = N at *
     simp [F_impl_comesTo,F,na,w1,w2,W,len,hlt,hlt',A,eqI,m0]
   ·rw [decide_eq_false hw] at W
    rw [if_neg (fun h => hw ⟨h.1,h.2.1⟩)]
    simp only [ctR]
    unfold pD pv at *
    generalize pts.map (e4 m t) = M at *
    simp [F_impl_comesTo,F,na,w1,w2,W,len]
def stPt (m : Nat) (t : List T) (P : List C3) (p : Nat) (pts : Pts) : LS :=
 ⟨[(8,.own 11808 P.length 0 P.length),(32,.sl 0 (P.map e3)),(33,.i P.length),(34,.i p)],[(11808,pts.map (e4 m t))]⟩
def noPt : LS := ⟨[(6,.own 3104 0 0 0),(7,.b false)],[(3104,[])]⟩
set_option maxHeartbeats 8000000 in
theorem pt_step {m : Nat} {t : List T} {P : List C3} {p : Nat} {pts : Pts} {c : C3} (h1 : tmOk m t = true) (hc : P[p]? = some c) (hP : P.length ≤ 31) (hl : pts.length = P.length)
  (ho : ∀ (a : Nat) (ks : List Int),pts[a]? = some (some ks) → ks.length = m ∧ ks.all kOk = true) :
  ex lf F_impl_pointsOf_L0 (stPt m t P p pts) = match rn1 m t pts p c with
   | some q => some (.normal,stPt m t P (p + 1) q)
   | none => some (.ret,noPt) := by
 obtain ⟨h3,_,_⟩ := tmOk_iff.1 h1
 obtain ⟨k,no,ye⟩ := c
 have hlt : p < P.length := (List.getElem?_eq_some_iff.1 hc).1
 have hlt' : (p : Int) < P.length := by omega
 have AP := at_e3 hc
 have AN := atN_e3 hc
 simp only at AP AN
 obtain ⟨o,hpo⟩ : ∃ o,pts[p]? = some o := ⟨pts[p]'(by omega),List.getElem?_eq_getElem (by omega)⟩
 have A := atN_e4 (m := m) (t := t) hpo
 have len : (pts.map (e4 m t)).length = P.length := by simp [hl]
 have wid := wid_e4 m t pts
 have ld := lend_e4 m t pts
 have ad := fun x => adopt_e4 m t x pts
 have w1 : wr ((p : Int) + 1) = ((p + 1 : Nat) : Int) := by rw [wr_id (by omega) (by omega)]; omega
 unfold rn1
 rw [hpo]
 cases o with
 | none =>
  simp only
  have C := c_canAsk0 k
  simp only [e4] at A
  unfold stPt noPt
  unfold pv at *
  generalize pts.map (e4 m t) = M at *
  generalize P.length = N at *
  simp [F_impl_pointsOf_L0,hlt,hlt',AP,AN,len,A,C,w1,-Int.natCast_add]
 | some ks =>
  simp only
  obtain ⟨o1,o2⟩ := ho p ks hpo
  have C := c_canAsk (t := t) (ks := ks) (by omega) o1 k
  simp only [e4] at A
  by_cases hk : (0 ≤ k ∧ k < m) ∧ ks[k.toNat]? = some (-1)
  ·have ca : caK m ks k = true := by unfold caK; rw [decide_eq_true hk.1,decide_eq_true hk.2]; rfl
   rw [ca] at C
   rw [if_pos hk]
   obtain ⟨j,rfl⟩ := Int.eq_ofNat_of_zero_le hk.1.1
   rw [Int.toNat_natCast] at hk ⊢
   have B0 := c_answered (m := m) (t := t) false (by omega) o2 hk.2
   have B1 := c_answered (m := m) (t := t) true (by omega) o2 hk.2
   rw [bI_0] at B0
   rw [bI_1] at B1
   have k0 : (ks.set j 0).all kOk = true := kOk_set o2 j false
   have k1 : (ks.set j 1).all kOk = true := kOk_set o2 j true
   have G0 := c_comesTo (pts := pts) (p := p) (a := no) h1 (ks := ks.set j 0) (by simpa using o1) k0 ⟨by omega,by omega⟩ (by omega)
   cases hc0 : cTo m t pts p no (ks.set j 0) with
   | none =>
    rw [hc0] at G0
    simp only [ctR] at G0
    rw [Option.bind_none]
    simp only
    unfold stPt noPt
    unfold pD pv at *
    generalize pts.map (e4 m t) = M at *
    generalize P.length = N at *
    simp [F_impl_pointsOf_L0,hlt,hlt',AP,AN,len,A,C,B0,G0,ld,ad,w1,-Int.natCast_add]
   | some q1 =>
    rw [hc0] at G0
    simp only [ctR] at G0
    rw [Option.bind_some]
    have l1 := cTo_len (by omega) hc0
    have len1 : (q1.map (e4 m t)).length = P.length := by simp [l1,hl]
    have ld1 := lend_e4 m t q1
    have ad1 := fun x => adopt_e4 m t x q1
    have G1 := c_comesTo (pts := q1) (p := p) (a := ye) h1 (ks := ks.set j 1) (by simpa using o1) k1 ⟨by omega,by omega⟩ (by omega)
    cases hc1 : cTo m t q1 p ye (ks.set j 1) with
    | none =>
     rw [hc1] at G1
     simp only [ctR] at G1
     simp only
     unfold stPt noPt
     unfold pD pv at *
     generalize pts.map (e4 m t) = M at *
     generalize q1.map (e4 m t) = M1 at *
     generalize P.length = N at *
     simp [F_impl_pointsOf_L0,hlt,hlt',AP,AN,len,A,C,B0,B1,G0,G1,len1,ld,ad,ld1,ad1,w1,-Int.natCast_add]
    | some q2 =>
     rw [hc1] at G1
     simp only [ctR] at G1
     simp only
     have ad2 := fun x => adopt_e4 m t x q2
     unfold stPt
     unfold pD pv at *
     generalize pts.map (e4 m t) = M at *
     generalize q1.map (e4 m t) = M1 at *
     generalize q2.map (e4 m t) = M2 at *
     generalize P.length = N at *
     simp [F_impl_pointsOf_L0,hlt,hlt',AP,AN,len,A,C,B0,B1,G0,G1,len1,ld,ad,ld1,ad1,ad2,w1,-Int.natCast_add]
  ·have ca : caK m ks k = false := by
    unfold caK
    by_cases q : 0 ≤ k ∧ k < m
    ·rw [decide_eq_true q,decide_eq_false (fun h => hk ⟨q,h⟩)]; rfl
    ·rw [decide_eq_false q]; rfl
   rw [ca] at C
   rw [if_neg hk]
   simp only
   unfold stPt noPt
   unfold pD pv at *
   generalize pts.map (e4 m t) = M at *
   generalize P.length = N at *
   simp [F_impl_pointsOf_L0,hlt,hlt',AP,AN,len,A,C,w1,-Int.natCast_add]
end
section
attribute [-simp] DV.cells
attribute [local simp] sliceD cells_st cells_sl cells_i cells_y cells_b cells_s cells_w
attribute [local simp] lend_e3 adopt_e3 new_e3 al_e3 lt_e3
theorem pt_loop {m : Nat} {t : List T} {P : List C3} (h1 : tmOk m t = true) (hP : P.length ≤ 31) : ∀ (rest : List C3) (p : Nat) (pts : Pts),P.drop p = rest → p ≤ P.length → Inv m t P p pts →
  ex lf F_impl_pointsOf_W0 (stPt m t P p pts) = match rnA m t rest p pts with
   | some q => some (.exit 0,stPt m t P P.length q)
   | none => some (.ret,noPt)
 | [],p,pts,hd,hp,h => by
  have : P.length ≤ p := List.drop_eq_nil_iff.1 hd
  have e : p = P.length := by omega
  subst e
  rw [w_impl_pointsOf_0]
  unfold stPt
  have nlt : ¬ ((P.length : Int) < P.length) := by omega
  simp [F_impl_pointsOf_L0,nlt,rnA]
 | c :: r,p,pts,hd,hp,h => by
  have hc : P[p]? = some c := by
   have : (P.drop p)[0]? = some c := by rw [hd]; rfl
   rw [List.getElem?_drop,Nat.add_zero] at this
   exact this
  have hlt : p < P.length := (List.getElem?_eq_some_iff.1 hc).1
  have hd' : P.drop (p + 1) = r := by
   rw [← List.drop_drop,hd]
   rfl
  have S := pt_step h1 hc hP h.len (fun a ks ha => by obtain ⟨q1,q2,_⟩ := h.ok a ks ha; exact ⟨q1,q2⟩)
  rw [w_impl_pointsOf_0,S]
  simp only [rnA]
  cases hr : rn1 m t pts p c with
  | none => rfl
  | some q =>
   rw [Option.bind_some]
   exact pt_loop h1 hP r (p + 1) q hd' (by omega) (inv_step hc h hr)
/-- the rows of points,and whether there is one -/
def ptR (m : Int) (t : List T) (P : List C3) : Option Pts := if tmOk m t && decide (P.length ≤ 31) then rnS m.toNat t P else none
theorem ptR_iff {m : Int} {t : List T} {P : List C3} : (∃ q,ptR m t P = some q) ↔ pkOk m t P = true := by
 unfold ptR
 cases h1 : tmOk m t with
 | false =>
  simp only [Bool.false_and,Bool.false_eq_true,if_false]
  unfold pkOk
  rw [h1]
  simp
 | true =>
  obtain ⟨h3,_,_⟩ := tmOk_iff.1 h1
  obtain ⟨n,rfl⟩ := Int.eq_ofNat_of_zero_le (a := m) (by omega)
  rw [pk_iff,Int.toNat_natCast]
  by_cases h : P.length ≤ 31
  ·rw [decide_eq_true h,Bool.and_self,if_pos rfl,rnS_iff h]
   exact ⟨fun q => ⟨h1,q⟩,fun q => q.2⟩
  ·rw [decide_eq_false h]
   simp only [Bool.and_false,Bool.false_eq_true,if_false]
   constructor
   ·rintro ⟨q,h⟩; cases h
   ·rintro ⟨_,L,hL⟩; exact absurd hL.few h
def ptD (m : Int) (t : List T) : Option Pts → List DV
 | some q => q.map (e4 m.toNat t)
 | none => []
set_option maxHeartbeats 4000000 in
theorem c_pointsOf {m : Int} {t : List T} {P : List C3} (ht : (t.length : Int) < 1099511627776) (hN : (P.length : Int) < 1099511627776) :
  call lf n_impl_pointsOf [.i m,.sl 0 (t.map e2),.sl 0 (P.map e3)] = some (.tup [.fr 4 (ptD m t (ptR m t P)),.b (ptR m t P).isSome],[]) := by
 have C1 := c_impl_TermOk m t ht
 rw [call_k lf n_impl_pointsOf _ (F := F_impl_pointsOf) rfl rfl]
 have lP : (P.map e3).length = P.length := by simp
 unfold ptR
 cases h1 : tmOk m t with
 | false => rw [h1] at C1; simp [F_impl_pointsOf,C1,ptD]
 | true =>
  rw [h1] at C1
  obtain ⟨h3,_,_⟩ := tmOk_iff.1 h1
  obtain ⟨n,rfl⟩ := Int.eq_ofNat_of_zero_le (a := m) (by omega)
  rw [Int.toNat_natCast]
  by_cases h : P.length ≤ 31
  ·have ng : ¬ (31 : Int) < P.length := by omega
   rw [decide_eq_true h,Bool.and_self,if_pos rfl]
   have C2 := c_firstOf P hN
   have C3 := c_startOf (t := t) (by omega) h1
   have r1 : -1 ≤ rot P := by unfold rot; split <;> omega
   have C4 := c_comesTo (pts := List.replicate P.length none) (p := -1) (a := rot P) h1 (non_len n) (non_all n) ⟨by omega,by omega⟩ (by rw [List.length_replicate]; omega)
   have lE := lend_e3 P
   have rp : (List.replicate P.length (none : Option (List Int))).map (e4 n t) = List.replicate P.length (.st [.i 0,.i 0,.w (0#32),.w (0#32)]) := by rw [List.map_replicate]; rfl
   have ldr := lend_e4 n t (List.replicate P.length none)
   have adr := fun x => adopt_e4 n t x (List.replicate P.length none)
   rw [rp] at C4 ldr adr
   have lb : (P.length : Int) ≤ (bound : Int) := by unfold bound; omega
   unfold rnS
   cases hq : cTo n t (List.replicate P.length none) (-1) (rot P) (non n) with
   | none =>
    rw [hq] at C4
    simp only [ctR] at C4
    rw [rp] at C4
    rw [Option.bind_none]
    unfold pD pv at *
    generalize P.map e3 = Q at *
    generalize rot P = r0 at *
    generalize P.length = N at *
    have lr : (List.replicate N (DV.st [.i 0,.i 0,.w (0#32),.w (0#32)])).length = N := by simp
    simp [F_impl_pointsOf,C1,C2,C3,C4,ng,lb,lP,lE,ldr,adr,lr,ptD]
   | some q0 =>
    rw [hq] at C4
    simp only [ctR] at C4
    rw [Option.bind_some]
    obtain ⟨iv,_⟩ := inv_start hq
    have L := pt_loop h1 h P 0 q0 rfl (Nat.zero_le _) iv
    have ad0 := fun x => adopt_e4 n t x q0
    have lq0 : (q0.map (e4 n t)).length = P.length := by rw [List.length_map,iv.len]
    cases hr : rnA n t P 0 q0 with
    | none =>
     rw [hr] at L
     simp only at L
     unfold stPt noPt at L
     unfold pD pv at *
     generalize q0.map (e4 n t) = M at *
     generalize P.map e3 = Q at *
     generalize rot P = r0 at *
     generalize P.length = N at *
     have lr : (List.replicate N (DV.st [.i 0,.i 0,.w (0#32),.w (0#32)])).length = N := by simp
     simp only [Int.natCast_zero] at L
     simp [F_impl_pointsOf,C1,C2,C3,C4,ng,lb,lP,lE,ldr,ad0,lr,L,ptD]
    | some q =>
     rw [hr] at L
     simp only at L
     have iv2 := inv_all P 0 q0 q rfl (Nat.zero_le _) iv hr
     have lq : (q.map (e4 n t)).length = P.length := by rw [List.length_map,iv2.len]
     unfold stPt at L
     unfold pD pv at *
     simp only [ptD,Int.toNat_natCast]
     generalize q.map (e4 n t) = M2 at *
     generalize q0.map (e4 n t) = M at *
     generalize P.map e3 = Q at *
     generalize rot P = r0 at *
     generalize P.length = N at *
     have lr : (List.replicate N (DV.st [.i 0,.i 0,.w (0#32),.w (0#32)])).length = N := by simp
     simp only [Int.natCast_zero] at L
     simp [F_impl_pointsOf,C1,C2,C3,C4,ng,lb,lP,lE,ldr,ad0,lr,L,lq]
  ·have ng : (31 : Int) < P.length := by omega
   rw [decide_eq_false h]
   generalize P.map e3 = Q at *
   generalize P.length = N at *
   simp [F_impl_pointsOf,C1,ng,lP,ptD]
theorem c_impl_PlanOk {m : Int} {t : List T} {P : List C3} (ht : (t.length : Int) < 1099511627776) (hN : (P.length : Int) < 1099511627776) :
  call lf n_impl_PlanOk [.i m,.sl 0 (t.map e2),.sl 0 (P.map e3)] = some (.b (pkOk m t P),[]) := by
 have C := c_pointsOf (m := m) (t := t) (P := P) ht hN
 have e : (ptR m t P).isSome = pkOk m t P := by
  have q := ptR_iff (m := m) (t := t) (P := P)
  rw [Bool.eq_iff_iff,Option.isSome_iff_exists]
  exact q
 rw [e] at C
 have nw : allNewL (ptD m t (ptR m t P)) = true := by
  cases ptR m t P with
  | none => rfl
  | some q => exact new_e4 _ _ _
 rw [call_k lf n_impl_PlanOk _ (F := F_impl_PlanOk) rfl rfl]
 generalize ptD m t (ptR m t P) = M at *
 simp [F_impl_PlanOk,C,nw]
structure Fin (m : Nat) (t : List T) (P : List C3) (L : LT) (pts : Pts) : Prop where
 inv : Inv m t P P.length pts
 start : go3 m t P.length pts (-1) (rot P) (non m)
end
section
/-- the weight of what is known -/
def kp : List T → List Int → Int
 | t :: r,k :: ks => (if k = -1 then 1 else if k = 1 then t.2 else 6 - t.2) * kp r ks
 | _,_ => 1
end
end Zz
