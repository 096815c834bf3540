/- What the functions answer, as equations: EA. No conditions. -/
import Derived.Test.YtplfgkjggohajabIrzl
import Derived.Test.YtplfgkjggohajabE0
set_option linter.unusedSectionVars false
set_option linter.unusedVariables false
set_option linter.unusedSimpArgs false
namespace Zz
open Go.Lg Md
set_option linter.unusedSimpArgs false
set_option linter.unusedVariables false
attribute [local simp] tm_mv tm_newnil tm_pick tm_bin tm_eqb tm_eqs tm_un tm_len tm_lens tm_chk tm_fld tm_fldv tm_idxa tm_idx tm_load tm_store tm_slice tm_slices tm_make tm_alloc tm_box tm_build tm_app tm_conv tm_ext tm_call tm_calld tm_mkfn tm_mm tm_idxp tm_eqn tm_callg tm_callm tm_bslice0 tm_bslice1 tm_bslice2 tm_bslice cw_nil cw_cons cd_none cd_some ec_nil ec_cons es_nil es_one es_more nn_nil nn_cons ns_nil ns_cons si_nil si_cons sk_t stod_oad stod_own stod_adr stod_dead ml_nil ml_cons nt_nil nt_cons nc_nil' nc_cons sa_mkfn cv_adr cv_i cv_y cv_b cv_w sa_calld nm_def nh_nil nh_cons nxM_some nxM_none sc_st sd_i sd_y sd_b sd_s sd_w sd_q sc_i sc_y sc_b sc_s sc_w sc_q sa_bslice sa_app nc_own nc_nil sa_call sa_alloc sa_build sa_callm rm_nil rm_one rm_gen bq_mul bq_eql ia_mv ia_newnil ia_pick ia_bin ia_eqb ia_eqs ia_un ia_len ia_lens ia_chk ia_fld ia_fldv ia_idxa ia_idx ia_load ia_store ia_slice ia_slices ia_make ia_alloc ia_box ia_build ia_bslice ia_app ia_b2i ia_i2b ia_i2i ia_same ia_b2s ia_s2b ia_ext ia_mm ia_idxp ia_calld ia_mkfn ia_i2r ia_r2s ia_call pt_nil pt_cons mi_nil mi_cons md_bslice md_mv md_newnil md_pick md_bin md_eqb md_un md_len md_lens md_fld md_fldv md_idxa md_idx md_load md_store md_slice md_slices md_make md_alloc md_box md_build md_app md_conv md_ext md_call md_calld md_callg md_mkfn md_mm md_idxp md_eqn md_eqs md_chk tg_bslice tg_mv tg_newnil tg_pick tg_bin tg_eqb tg_un tg_len tg_lens tg_fld tg_fldv tg_idxa tg_idx tg_load tg_store tg_slice tg_slices tg_make tg_alloc tg_box tg_build tg_app tg_conv tg_ext tg_call tg_calld tg_callg tg_mkfn tg_mm tg_idxp tg_eqn tg_eqs tg_chk rp_eq ro_eq ifP_t ifP_f np_def ng1_nil ng2_nil ng_gate ng_gen tgA_t tgA_0 tgA_1 tgA_2 aC_nil aC_c aC_t rS_def nb_def tv_b2i tv_i2b tv_i2i tv_s2b tv_b2s tv_same tv_i2r tv_r2s tv_i2q tv_q2i tv_q2q nxZ_some nxZ_none rz_nil rz_gen nxP_some nxP_none rq_nil rq_gen rq_gate nxR_some nxR_none ru_nil ru_gen ru_gate pl_none pl_some gt_nil gt_t gt_c di_some di_none an_nil an_cons nxG_some nxG_none rg_nil rg_gen rg_gate oldO_some oa_nil oa_i oa_y oa_b oa_s oa_st oa_sl oa_own oa_oad oa_nl al_nil al_cons al_i al_y al_b al_s al_st al_sl nxF_some nxF_none rf_nil rf_gen rf_gate hk_newnil hk_make hk_alloc hk_box hk_build hk_bslice hk_call hk_store hk_app hk_appn em_cel mm_cel ok_cel ov_cel so_cel il_cel oi_cel oj_cel ol_cel nm_cel hk_appc ef_bslice5 ef_app_cel ks_shut shu_own shc_none shc_cel cl_nil cl_cons ai_nil ai_cons il_i il_y il_b il_s il_st il_sl il_own il_adr il_oad il_ref il_fr il_tup il_nil il_np il_und il_dead ol_adr ol_b ol_dead ol_e ol_fn ol_fr ol_i ol_nil ol_np ol_oad ol_own ol_q ol_r ol_ref ol_s ol_sl ol_st ol_tup ol_und ol_w ol_y oj_e oj_i oj_y oj_b oj_s oj_st oj_sl oj_own oj_adr oj_oad oj_ref oj_fr oj_tup oj_nil oj_np oj_und oj_dead oj_w oj_q oj_r oj_fn oi_e oi_i oi_y oi_b oi_s oi_st oi_sl oi_own oi_adr oi_oad oi_ref oi_fr oi_tup oi_nil oi_np oi_und oi_dead as_nil as_cons ao_nil ao_cons av_i av_y av_b av_s av_st av_sl av_own av_adr av_oad av_ref av_fr av_tup av_nil av_np av_und av_dead pro_cons ghK_some ks_promote ks_freeze frz_own ks_rename ren_own ks_cell cel_own dropO adoptP newP wholeP cutP allOldL ex_skip ex_ret ex_exit ks_region ks_seq ks_cut ks_cond ks_block seqK_n seqK_e seqK_r regK_some condK_t condK_f blkK_n blkK_r blkK_e endK_n endK_r rr_false rr_true rd_free mo_nil mo_cons drK_some drK_none nxW_some nxW_none rw_nil rw_gen rw_gate ak_newnil ak_make ak_alloc ak_box ak_build ak_bslice ak_call ak_store ak_app iw_mm iw_eqn iw_idxp ef_callg cgK_some gv_e gv_own gv_i gv_sl gv_st gv_b gv_nil gvK_some gvO_some iw_callg ia_callg ak_callg hk_callg is_mv is_newnil is_pick is_bin is_eqb is_eqs is_un is_len is_lens is_chk is_fld is_fldv is_idxa is_idx is_load is_slice is_slices is_make is_alloc is_box is_build is_bslice is_app is_conv is_ext is_call is_calld is_callg is_mkfn is_mm is_idxp is_eqn is_store rt_nil rt_gen rt_gate nxT_some nxT_none ef_eqn_nil ef_eqn_sl ef_eqn_own ia_eqn ef_mmx ef_mmn ef_idxp nxD_some nxD_none ov_i ov_y ov_b ov_s ov_st ov_sl ov_own ov_oad ov_adr ov_nil ov_np ov_und ov_dead ov_tup oldN_some oldN_nil oldN_none so_none so_tup DV.noM so_i so_y so_b so_s so_st so_sl so_adr so_nil so_np so_und so_dead anyM_nil anyM_t anyM_c so_own so_oad rd_nil rd_gen rd_mv rd_gate iw_mv iw_newnil iw_pick iw_bin iw_eqb iw_eqs iw_un iw_len iw_lens iw_chk iw_fld iw_fldv iw_idxa iw_idx iw_load iw_store iw_slice iw_slices iw_make iw_alloc iw_box iw_build iw_bslice iw_app iw_b2i iw_i2b iw_i2i iw_same iw_b2s iw_s2b iw_ext iw_call nm_i nm_y nm_b nm_s nm_st nm_sl nm_own nm_oad nm_adr nm_nil nm_np nm_und nm_dead nm_tup rl_nil rl_gate rl_mv rl_gen opv_t opv_c nx_some nx_none gate_tt gate_tf gate_ft gate_ff gate_u fr_ap em_nil em_i em_y em_b em_s em_st em_sl em_own em_adr em_oad em_ref em_nl em_np em_und em_dead em_tup0 em_tup_i em_tup_b em_tup_s em_tup_sl em_tup_st em_tup_np em_tup_own em_tup_oad mm_i mm_y mm_b mm_s mm_st mm_sl mm_own mm_oad mm_adr mm_nil mm_np mm_und mm_dead ef_mv ef_newnil ef_pickt ef_pickf ef_bin ef_eqb ef_eqs ef_un ef_lens ef_len_sl ef_len_own ef_len_nil ef_chk_adr ef_chk_oad ef_fld_adr ef_fld_oad ef_fldv idxR_some ef_idxa_sl ef_idxa_own ef_idx ef_load_adr_st ef_load_adr_i ef_load_adr_y ef_load_adr_b ef_load_adr_s ef_load_adr_sl atN_nil atN_zero atN_succ ef_load_oad ef_store ef_slice ef_slices ef_make ef_alloc ef_box ef_build ef_bslice ef_app_own ef_app_nil ef_b2i ef_i2b ef_i2i ef_same ef_ext ret1 ret2_some calL_some ef_call retC_i retC_y retC_b retC_s retC_st retC_sl retC_np retC_fr retC_ref retC_tup rk_nil rk_i rk_y rk_b rk_s rk_st rk_sl rk_own rk_oad rk_nl ok_nil ok_i ok_y ok_b ok_s ok_st ok_sl ok_own ok_oad ok_nl lo_nil lo_i lo_y lo_b lo_s lo_st lo_sl lo_own lo_oad lo_nl pr_nil pr_i pr_y pr_b pr_s pr_st pr_sl pr_own pr_nl pr_oad nr_i nr_y nr_b nr_s nr_st nr_sl nr_fr nr_np nr_tup ng_i ng_b ng_s ng_fr ng_nil resV effP_eff binD bi_add bi_sub bi_mul bi_quo bi_rem bi_eql bi_neq bi_lss bi_leq bi_gtr bi_geq bi_shl bi_shr bi_and bi_or bi_xor bi_andNot binY binS unD look put putD LS.get LS.drop killE sweep lookO putO dropO enter leave giveBackL giveBack outs lendArgs lendArg newOuts takeIn takeInL lendL DV.lend adoptL DV.adopt elems apartKs part DV.cells unpart settle settleL over mkId szId fillP fillE tk_e2 tk_i tk_y lt_e2 lt_i lt_y lend_rep al_e2 al_is al_ys al_rep al_app lend_app adopt_app new_app lend_e2 lend_i lend_y adopt_e2 adopt_i adopt_y new_e2 new_i allNewL DV.allNew bounds sliceD sliceS em_w em_q em_r em_fn em_tup_w em_tup_q em_tup_r mm_w mm_q mm_r mm_fn ef_load_adr_w ef_load_adr_q ef_load_adr_r retC_w retC_q retC_r rk_w rk_q rk_r rk_fn ok_w ok_q ok_r ok_fn lo_w lo_q lo_r lo_fn pr_w pr_q pr_r pr_fn nr_w nr_q nr_r ng_w ng_q ng_r oa_w oa_q oa_r oa_fn al_w al_q al_r al_fn ov_w ov_q ov_r ov_fn so_w so_q so_r so_fn il_w il_q il_r il_fn oi_w oi_q oi_r oi_fn av_w av_q av_r av_fn nm_w nm_q nm_r nm_fn ef_i2r ef_r2s ef_b2s bs_some ys_nil ys_cons ys_map ef_mkfn ef_mkbd ef_idxp_adr ef_idxp_q ef_calld_nil ef_calld_adr ef_calld_bd DV.capB capsOk DV.cell List.all_cons List.all_nil rk_own_t lo_own_t lk_f lk_t pr_own_t mutB ak_calld hk_calld iw_calld iw_mkfn iw_i2r iw_r2s bw_and bw_or bw_xor bw_andNot bw_eql bw_neq sw_shl sw_shr sq_shl gEnv_nil rk_adr ok_adr lo_adr pr_adr oa_adr capL capArg DV.cap ak_mkfn hk_mkfn hk_mkbd ef_callm gf_ap ga_nil ga_cons tgv_own gk_e gk_giv gk_i gk_y gk_b gk_s gk_w gk_q gk_r gk_fn gk_st gk_sl gk_own gk_oad gk_adr gk_nl gk_np rk_giv ok_giv lo_giv pr_giv oa_giv iw_callm hk_callm ak_callm is_callm ia_callm tg_callm md_callm ef_i2q ef_q2i ef_q2q iw_i2q iw_q2i iw_q2q ia_i2q ia_q2i ia_q2q bq_and bq_add bq_shr sq_shr tgv_nil gk_ref rk_ref ok_ref lo_ref pr_ref oa_ref retC_fn nr_fn ef_load_adr_fn ks_close cls_oad
attribute [local congr] nxM_congr ifP_congr nxP_congr nxZ_congr nxR_congr nxT_congr nxG_congr nxF_congr ghK_congr gate_congr nx_congr nxD_congr runL_congr runD_congr eff_congr calL_congr ret2_congr seqK_congr regK_congr condK_congr endK_congr drK_congr nxW_congr
attribute [local simp ↓] nxM_some rm_nil rm_one rm_gen nxT_some rt_nil rt_gen rt_gate nxZ_some rz_nil rz_gen nxP_some rq_nil rq_gen rq_gate nxR_some ru_nil ru_gen ru_gate nxG_some rg_nil rg_gen rg_gate nxF_some rf_nil rf_gen rf_gate ks_promote ks_freeze frz_own ks_rename ks_cell ghK_some gate_tt gate_tf gate_ft gate_ff gate_u nx_some nxD_some rl_nil rl_mv rl_gen rl_gate rd_nil rd_mv rd_gen rd_gate rd_free rr_false rr_true drK_some drK_none nxW_some rw_nil rw_gen rw_gate ks_region ks_seq ks_cut ks_cond ks_block seqK_n seqK_e seqK_r regK_some condK_t condK_f blkK_n blkK_r endK_n endK_r calL_some ret2_some opv_t opv_c
section
theorem c_impl_isWithin (a b c : Int) : call lf n_impl_isWithin [.i a,.i b,.i c] = some (.b (decide (b ≤ a ∧ a ≤ c)),[]) := by
 rw [call_k lf n_impl_isWithin _ (F := F_impl_isWithin) rfl rfl]
 by_cases h : b ≤ a <;> simp [F_impl_isWithin,h]
theorem c_spec_l1In (a b c : Int) : call lf n_spec_l1In [.i a,.i b,.i c] = some (.b (decide (b ≤ a ∧ a ≤ c)),[]) := by
 rw [call_k lf n_spec_l1In _ (F := F_spec_l1In) rfl rfl]
 by_cases h : b ≤ a <;> simp [F_spec_l1In,h]
theorem c_impl_manyOk (a : Int) : call lf n_impl_manyOk [.i a] = some (.b (nOk a),[]) := by
 rw [call_k lf n_impl_manyOk _ (F := F_impl_manyOk) rfl rfl]
 simp [F_impl_manyOk,c_impl_isWithin,nOk]

theorem l_impl_TestsOk (n : Int) (hb : n < 1099511627776) (es : List DV) (rest : List T) : ∀ k : Int,0 ≤ k → k + (rest.map e2).length = n → es.drop k.toNat = rest.map e2 →
  ex lf F_impl_TestsOk_W0 ⟨[(9,.sl 0 es),(10,.i n),(11,.i k)],[]⟩ =
  if rest.all tOk then some (.exit 0,⟨[(9,.sl 0 es),(10,.i n),(11,.i n)],[]⟩) else some (.ret,⟨[(2,.b false)],[]⟩) := by
 induction rest with
 | nil =>
  intro k h0 hn hd
  rw [w_impl_TestsOk_0]
  have hk : k = n := by simpa using hn
  simp [F_impl_TestsOk_L0,hk]
 | cons t rest ih =>
  intro k h0 hn hd
  obtain ⟨q1,q2,q3,q4,q5,q6⟩ := stp h0 hn hb hd
  have ih := ih (k + 1) q4 q5 q6
  simp only [e2] at q2
  rw [w_impl_TestsOk_0]
  have xt := tOk_def t
  cases x1 : decide (1 ≤ t.1 ∧ t.1 ≤ 9) <;> cases x2 : decide (1 ≤ t.2 ∧ t.2 ≤ 5) <;> rw [x1,x2] at xt <;> simp [F_impl_TestsOk_L0,q1,q2,q3,c_impl_isWithin,ih,xt,x1,x2,-List.all_eq_true]
theorem c_impl_TestsOk (ts : List T) (hb : (ts.length : Int) < 1099511627776) : call lf n_impl_TestsOk [.sl 0 (ts.map e2)] = some (.b (tsOk ts),[]) := by
 rw [call_k lf n_impl_TestsOk _ (F := F_impl_TestsOk) rfl rfl]
 have L := l_impl_TestsOk ts.length hb (ts.map e2) ts 0 (by omega) (by simp) (by simp)
 cases h1 : nOk ts.length <;> cases h2 : ts.all tOk <;> simp [F_impl_TestsOk,c_impl_manyOk,L,h1,h2,tsOk]

theorem nOk_iff {a : Int} : nOk a = true ↔ 1 ≤ a ∧ a ≤ 5 := by simp [nOk]
theorem tsOk_iff {ts : List T} : tsOk ts = true ↔ (1 ≤ (ts.length : Int) ∧ (ts.length : Int) ≤ 5) ∧ ts.all tOk = true := by
 rw [tsOk,Bool.and_eq_true,nOk_iff]
end
section
theorem p2 {ts : List T} (h : tsOk ts = true) : 1 ≤ (2 : Nat) ^ ts.length ∧ (2 : Nat) ^ ts.length ≤ 32 ∧ ((2 ^ ts.length : Nat) : Int) = 2 ^ ts.length := by
 have h' := tsOk_iff.1 h
 have a : (2 : Nat) ^ ts.length ≤ 2 ^ 5 := Nat.pow_le_pow_right (by omega) (by omega)
 exact ⟨Nat.pow_pos (by omega),by omega,by simp⟩
theorem at_e2 {ts : List T} {i : Nat} (hi : i < ts.length) : ∃ t,ts[i]? = some t ∧ t ∈ ts ∧ atI (ts.map e2) i = some (.st [.i t.1,.i t.2]) ∧ ts.take (i + 1) = ts.take i ++ [t] := by
 refine ⟨ts[i],List.getElem?_eq_getElem hi,List.getElem_mem hi,?_,List.take_succ_eq_append_getElem hi⟩
 simp [atI,hi,e2]
end
section
/-- a mark read with p parts before it -/
def mkS (m p : Int) (t : T) : Option Int :=
 if t.1 = 0 then (if 0 ≤ t.2 ∧ t.2 < m then some (p + 1) else none)
 else if t.1 = 1 then (if t.2 = 0 ∧ 1 ≤ p then some p else none)
 else if t.1 = 2 ∨ t.1 = 3 then (if t.2 = 0 ∧ 2 ≤ p then some (p - 1) else none)
 else none
def runM (m : Int) : Int → List T → Option Int
 | p,[] => some p
 | p,t :: r => match mkS m p t with
  | some q => runM m q r
  | none => none
def tmOk (m : Int) (ts : List T) : Bool := nOk m && decide ((ts.length : Int) ≤ 13) && runM m 0 ts == some 1
theorem c_impl_partsTaken (k : Int) : call lf n_impl_partsTaken [.i k] = some (.i (if k = 0 then 0 else if k = 1 then 1 else 2),[]) := by
 rw [call_k lf n_impl_partsTaken _ (F := F_impl_partsTaken) rfl rfl]
 by_cases h0 : k = 0
 ·simp [F_impl_partsTaken,h0]
 ·have h0' : (k == 0) = false := beq_eq_false_iff_ne.2 h0
  by_cases h1 : k = 1
  ·simp [F_impl_partsTaken,h1]
  ·have h1' : (k == 1) = false := beq_eq_false_iff_ne.2 h1
   simp [F_impl_partsTaken,h0,h1,h0',h1']
theorem c_impl_markOk (m k a : Int) (hm : nOk m = true) : call lf n_impl_markOk [.i m,.st [.i k,.i a]] = some (.b (if k = 0 then decide (0 ≤ a ∧ a < m) else decide ((1 ≤ k ∧ k ≤ 3) ∧ a = 0)),[]) := by
 rw [call_k lf n_impl_markOk _ (F := F_impl_markOk) rfl rfl]
 have hm' := nOk_iff.1 hm
 have w : wr (m - 1) = m - 1 := wr_id (by omega) (by omega)
 by_cases h0 : k = 0
 ·have e : decide (0 ≤ a ∧ a ≤ m - 1) = decide (0 ≤ a ∧ a < m) := decide_eq_decide.2 (by omega)
  simp [F_impl_markOk,h0,w,c_impl_isWithin,e]
 ·have h0' : (k == 0) = false := beq_eq_false_iff_ne.2 h0
  by_cases h1 : 1 ≤ k ∧ k ≤ 3
  ·have d1 : decide (1 ≤ k ∧ k ≤ 3) = true := decide_eq_true h1
   have e : decide ((1 ≤ k ∧ k ≤ 3) ∧ a = 0) = (a == 0) := by
    by_cases ha : a = 0
    ·simp [ha,h1]
    ·have ha' : (a == 0) = false := beq_eq_false_iff_ne.2 ha
     rw [ha']; simp [ha]
   simp [F_impl_markOk,h0,h0',c_impl_isWithin,d1,e]
  ·have d1 : decide (1 ≤ k ∧ k ≤ 3) = false := decide_eq_false h1
   have e : decide ((1 ≤ k ∧ k ≤ 3) ∧ a = 0) = false := decide_eq_false (fun h => h1 h.1)
   simp [F_impl_markOk,h0,h0',c_impl_isWithin,d1,e]
set_option maxHeartbeats 4000000 in
theorem l_impl_TermOk (m : Int) (hm : nOk m = true) (n : Int) (hb : n < 1099511627776) (es : List DV) (rest : List T) : ∀ k p : Int,0 ≤ k → k + (rest.map e2).length = n → es.drop k.toNat = rest.map e2 → 0 ≤ p → p ≤ k →
  ex lf F_impl_TermOk_W0 ⟨[(0,.i m),(5,.i p),(18,.sl 0 es),(19,.i n),(20,.i k)],[]⟩ =
  match runM m p rest with
  | some q => some (.exit 0,⟨[(0,.i m),(5,.i q),(18,.sl 0 es),(19,.i n),(20,.i n)],[]⟩)
  | none => some (.ret,⟨[(4,.b false)],[]⟩) := by
 induction rest with
 | nil =>
  intro k p h0 hn hd _ _
  rw [w_impl_TermOk_0]
  have hk : k = n := by simpa using hn
  simp [F_impl_TermOk_L0,hk,runM]
 | cons t rest ih =>
  intro k p h0 hn hd hp hpk
  obtain ⟨q1,q2,q3,q4,q5,q6⟩ := stp h0 hn hb hd
  have mk := c_impl_markOk m t.1 t.2 hm
  simp only [e2] at q2
  have nb : k ≤ 1099511627776 := by omega
  have w0 : wr (1 : Int) = 1 := wr_id (by omega) (by omega)
  have w1 : wr (p + 1) = p + 1 := wr_id (by omega) (by omega)
  have w2 : wr p = p := wr_id (by omega) (by omega)
  have w3 : wr (-1 : Int) = -1 := wr_id (by omega) (by omega)
  have w4 : wr (p + -1) = p + -1 := wr_id (by omega) (by omega)
  have w5 : wr (0 : Int) = 0 := wr_id (by omega) (by omega)
  obtain ⟨kd,a⟩ := t
  simp only at mk q2
  rw [w_impl_TermOk_0,runM]
  have iha := ih (k + 1) (p + 1) q4 q5 q6 (by omega) (by omega)
  have ihb := ih (k + 1) p q4 q5 q6 (by omega) (by omega)
  by_cases k0 : kd = 0
  ·subst k0
   by_cases ha : 0 ≤ a ∧ a < m
   ·have e : mkS m p (0,a) = some (p + 1) := by simp [mkS,ha]
    have d : decide (0 ≤ a ∧ a < m) = true := decide_eq_true ha
    simp only [if_true,d] at mk
    have np : ¬ p < 0 := by omega
    simp [F_impl_TermOk_L0,q1,q2,q3,mk,c_impl_partsTaken,np,w0,w1,iha,e]
   ·have e : mkS m p (0,a) = none := by simp only [mkS,if_true,if_neg ha]
    have d : decide (0 ≤ a ∧ a < m) = false := decide_eq_false ha
    simp only [if_true,d] at mk
    simp [F_impl_TermOk_L0,q1,q2,q3,mk,c_impl_partsTaken,e]
  ·rw [if_neg k0] at mk
   by_cases k1 : kd = 1
   ·subst k1
    by_cases ha : a = 0
    ·subst ha
     by_cases hp1 : 1 ≤ p
     ·have e : mkS m p (1,0) = some p := by simp [mkS,hp1]
      have np : ¬ p < 1 := by omega
      simp at mk
      simp [F_impl_TermOk_L0,q1,q2,q3,mk,c_impl_partsTaken,np,w2,w5,ihb,e]
     ·have e : mkS m p (1,0) = none := by simp [mkS,hp1]
      have np : p < 1 := by omega
      simp at mk
      simp [F_impl_TermOk_L0,q1,q2,q3,mk,c_impl_partsTaken,np,e]
    ·have e : mkS m p (1,a) = none := by simp [mkS,ha]
     have d : decide ((1 ≤ (1 : Int) ∧ (1 : Int) ≤ 3) ∧ a = 0) = false := decide_eq_false (fun h => ha h.2)
     rw [d] at mk
     simp [F_impl_TermOk_L0,q1,q2,q3,mk,c_impl_partsTaken,e]
   ·by_cases k2 : kd = 2 ∨ kd = 3
    ·by_cases ha : a = 0
     ·subst ha
      have d : decide ((1 ≤ kd ∧ kd ≤ 3) ∧ (0 : Int) = 0) = true := decide_eq_true ⟨by omega,rfl⟩
      rw [d] at mk
      by_cases hp1 : 2 ≤ p
      ·have e : mkS m p (kd,0) = some (p - 1) := by simp [mkS,k0,k1,k2,hp1]
       have np : ¬ p < 2 := by omega
       have ihc := ih (k + 1) (p - 1) q4 q5 q6 (by omega) (by omega)
       simp only [Int.sub_eq_add_neg] at ihc e
       simp [F_impl_TermOk_L0,q1,q2,q3,mk,c_impl_partsTaken,k0,k1,np,w3,w4,ihc,e]
      ·have e : mkS m p (kd,0) = none := by simp [mkS,k0,k1,k2,hp1]
       have np : p < 2 := by omega
       simp [F_impl_TermOk_L0,q1,q2,q3,mk,c_impl_partsTaken,k0,k1,np,e]
     ·have e : mkS m p (kd,a) = none := by simp [mkS,k0,k1,k2,ha]
      have d : decide ((1 ≤ kd ∧ kd ≤ 3) ∧ a = 0) = false := decide_eq_false (fun h => ha h.2)
      rw [d] at mk
      simp [F_impl_TermOk_L0,q1,q2,q3,mk,c_impl_partsTaken,k0,k1,e]
    ·have e : mkS m p (kd,a) = none := by simp [mkS,k0,k1,k2]
     have d : decide ((1 ≤ kd ∧ kd ≤ 3) ∧ a = 0) = false := decide_eq_false (fun h => by omega)
     rw [d] at mk
     simp [F_impl_TermOk_L0,q1,q2,q3,mk,c_impl_partsTaken,k0,k1,e]
theorem c_impl_TermOk (m : Int) (ts : List T) (hb : (ts.length : Int) < 1099511627776) : call lf n_impl_TermOk [.i m,.sl 0 (ts.map e2)] = some (.b (tmOk m ts),[]) := by
 rw [call_k lf n_impl_TermOk _ (F := F_impl_TermOk) rfl rfl]
 cases h1 : nOk m with
 | false => simp [F_impl_TermOk,c_impl_manyOk,h1,tmOk]
 | true =>
  by_cases h2 : 1 ≤ (ts.length : Int) ∧ (ts.length : Int) ≤ 13
  ·have d : decide (1 ≤ (ts.length : Int) ∧ (ts.length : Int) ≤ 13) = true := decide_eq_true h2
   have L := l_impl_TermOk m h1 ts.length hb (ts.map e2) ts 0 0 (by omega) (by simp) (by simp) (by omega) (by omega)
   have d2 : decide ((ts.length : Int) ≤ 13) = true := decide_eq_true h2.2
   cases hr : runM m 0 ts with
   | none =>
    rw [hr] at L
    simp [F_impl_TermOk,c_impl_manyOk,c_impl_isWithin,h1,d,L,tmOk,hr]
   | some q =>
    rw [hr] at L
    have e : tmOk m ts = (q == 1) := by
     rw [tmOk,h1,d2,hr]
     cases hq : q == 1 <;> simp_all
    simp [F_impl_TermOk,c_impl_manyOk,c_impl_isWithin,h1,d,L,e]
  ·have d : decide (1 ≤ (ts.length : Int) ∧ (ts.length : Int) ≤ 13) = false := decide_eq_false h2
   have e : tmOk m ts = false := by
    by_cases h3 : (ts.length : Int) ≤ 13
    ·have : ts = [] := List.eq_nil_of_length_eq_zero (by omega)
     subst this
     simp [tmOk,runM]
    ·simp only [tmOk,decide_eq_false h3,Bool.and_false,Bool.false_and]
   simp [F_impl_TermOk,c_impl_manyOk,c_impl_isWithin,h1,d,e]
set_option maxHeartbeats 4000000 in
theorem l_spec_TermOk (m : Int) (n : Int) (hb : n < 1099511627776) (es : List DV) (hE : (es.length : Int) = n) (rest : List T) : ∀ k p : Int,0 ≤ k → k + (rest.map e2).length = n → es.drop k.toNat = rest.map e2 → 0 ≤ p → p ≤ k →
  ex lf F_spec_TermOk_W0 ⟨[(0,.i m),(1,.sl 0 es),(5,.i p),(6,.i k)],[]⟩ =
  match runM m p rest with
  | some q => some (.exit 0,⟨[(0,.i m),(1,.sl 0 es),(5,.i q),(6,.i n)],[]⟩)
  | none => some (.ret,⟨[(4,.b false)],[]⟩) := by
 induction rest with
 | nil =>
  intro k p h0 hn hd _ _
  rw [w_spec_TermOk_0]
  have hk : k = n := by simpa using hn
  simp [F_spec_TermOk_L0,hk,hE,runM]
 | cons t rest ih =>
  intro k p h0 hn hd hp hpk
  obtain ⟨q1,q2,q3,q4,q5,q6⟩ := stp h0 hn hb hd
  simp only [e2] at q2
  have w1 : wr (p + 1) = p + 1 := wr_id (by omega) (by omega)
  have w2 : wr (p - 1) = p - 1 := wr_id (by omega) (by omega)
  obtain ⟨kd,a⟩ := t
  simp only at q2
  rw [w_spec_TermOk_0,runM]
  have iha := ih (k + 1) (p + 1) q4 q5 q6 (by omega) (by omega)
  have ihb := ih (k + 1) p q4 q5 q6 (by omega) (by omega)
  by_cases k0 : kd = 0
  ·subst k0
   by_cases ha : 0 ≤ a
   ·by_cases hb : a < m
    ·have e : mkS m p (0,a) = some (p + 1) := by simp [mkS,ha,hb]
     simp [F_spec_TermOk_L0,q1,q2,q3,hE,ha,hb,w1,iha,e,eqI]
    ·have e : mkS m p (0,a) = none := by simp [mkS,hb]
     simp [F_spec_TermOk_L0,q1,q2,q3,hE,ha,hb,e,eqI]
   ·have e : mkS m p (0,a) = none := by simp [mkS,ha]
    simp [F_spec_TermOk_L0,q1,q2,q3,hE,ha,e,eqI]
  ·have k0' : (kd == 0) = false := beq_eq_false_iff_ne.2 k0
   by_cases ha : a = 0
   ·subst ha
    by_cases k1 : kd = 1
    ·subst k1
     by_cases hp1 : 1 ≤ p
     ·have e : mkS m p (1,0) = some p := by simp [mkS,hp1]
      simp [F_spec_TermOk_L0,q1,q2,q3,hE,hp1,ihb,e,eqI]
     ·have e : mkS m p (1,0) = none := by simp [mkS,hp1]
      simp [F_spec_TermOk_L0,q1,q2,q3,hE,hp1,e,eqI]
    ·have k1' : (kd == 1) = false := beq_eq_false_iff_ne.2 k1
     by_cases hp1 : 2 ≤ p
     ·have ihc := ih (k + 1) (p - 1) q4 q5 q6 (by omega) (by omega)
      by_cases k2 : kd = 2
      ·subst k2
       have e : mkS m p (2,0) = some (p - 1) := by simp [mkS,hp1]
       simp [F_spec_TermOk_L0,q1,q2,q3,hE,hp1,w2,ihc,e,eqI]
      ·have k2' : (kd == 2) = false := beq_eq_false_iff_ne.2 k2
       by_cases k3 : kd = 3
       ·subst k3
        have e : mkS m p (3,0) = some (p - 1) := by simp [mkS,hp1]
        simp [F_spec_TermOk_L0,q1,q2,q3,hE,hp1,w2,ihc,e,eqI]
       ·have k3' : (kd == 3) = false := beq_eq_false_iff_ne.2 k3
        have e : mkS m p (kd,0) = none := by simp [mkS,k0,k1,k2,k3]
        simp [F_spec_TermOk_L0,q1,q2,q3,hE,k0',k1',k2',k3',k0,k1,k2,k3,hp1,e,eqI]
     ·have e : mkS m p (kd,0) = none := by simp [mkS,k0,k1,hp1]
      by_cases k2 : kd = 2
      ·subst k2
       simp [F_spec_TermOk_L0,q1,q2,q3,hE,hp1,e,eqI]
      ·have k2' : (kd == 2) = false := beq_eq_false_iff_ne.2 k2
       by_cases k3 : kd = 3
       ·subst k3
        simp [F_spec_TermOk_L0,q1,q2,q3,hE,hp1,e,eqI]
       ·have k3' : (kd == 3) = false := beq_eq_false_iff_ne.2 k3
        simp [F_spec_TermOk_L0,q1,q2,q3,hE,k0',k1',k2',k3',k0,k1,k2,k3,hp1,e,eqI]
   ·have e : mkS m p (kd,a) = none := by simp [mkS,k0,ha]
    have ha' : (a == 0) = false := beq_eq_false_iff_ne.2 ha
    have q : ∀ c : Int,eqI [.i kd,.i a] [.i c,.i 0] = some false := by
     intro c
     by_cases h : kd = c <;> simp [eqI,h,ha]
    simp [F_spec_TermOk_L0,q1,q2,q3,hE,k0',k0,e,q]
theorem c_spec_TermOk (m : Int) (ts : List T) (hb : (ts.length : Int) < 1099511627776) : call lf n_spec_TermOk [.i m,.sl 0 (ts.map e2)] = some (.b (tmOk m ts),[]) := by
 rw [call_k lf n_spec_TermOk _ (F := F_spec_TermOk) rfl rfl]
 have L := l_spec_TermOk m ts.length hb (ts.map e2) (by simp) ts 0 0 (by omega) (by simp) (by simp) (by omega) (by omega)
 have em : nOk m = decide (1 ≤ m ∧ m ≤ 5) := rfl
 cases hr : runM m 0 ts with
 | none =>
  rw [hr] at L
  have e : tmOk m ts = false := by simp [tmOk,hr]
  simp [F_spec_TermOk,L,e]
 | some q =>
  rw [hr] at L
  cases h1 : decide (1 ≤ m ∧ m ≤ 5) with
  | false =>
   have e : tmOk m ts = false := by simp [tmOk,em,h1]
   simp [F_spec_TermOk,c_spec_l1In,L,h1,e]
  | true =>
   by_cases hq : q = 1
   ·subst hq
    have e : tmOk m ts = decide ((ts.length : Int) ≤ 13) := by rw [tmOk,em,h1,hr]; simp
    simp [F_spec_TermOk,c_spec_l1In,L,h1,e]
   ·have hq' : (q == 1) = false := beq_eq_false_iff_ne.2 hq
    have e : tmOk m ts = false := by rw [tmOk,em,h1,hr]; simp [hq]
    simp [F_spec_TermOk,c_spec_l1In,L,h1,hq',e]

theorem tmOk_iff {m : Int} {ts : List T} : tmOk m ts = true ↔ (1 ≤ m ∧ m ≤ 5) ∧ (ts.length : Int) ≤ 13 ∧ runM m 0 ts = some 1 := by
 rw [tmOk,Bool.and_eq_true,Bool.and_eq_true,nOk_iff,decide_eq_true_eq,beq_iff_eq,and_assoc]
end
section
inductive Tm where
 | tst (a : Nat)
 | neg (x : Tm)
 | and (x y : Tm)
 | or (x y : Tm)
def flt : Tm → List T
 | .tst a => [(0,(a : Int))]
 | .neg x => flt x ++ [(1,0)]
 | .and x y => flt x ++ flt y ++ [(2,0)]
 | .or x y => flt x ++ flt y ++ [(3,0)]
def tb (m : Int) : Tm → Prop
 | .tst a => (a : Int) < m
 | .neg x => tb m x
 | .and x y => tb m x ∧ tb m y
 | .or x y => tb m x ∧ tb m y
theorem flt_pos : ∀ x : Tm,0 < (flt x).length
 | .tst a => by simp [flt]
 | .neg x => by simp [flt]
 | .and x y => by simp [flt]; omega
 | .or x y => by simp [flt]; omega
/-- how many parts a mark takes -/
def taken (k : Int) : Nat := if k = 0 then 0 else if k = 1 then 1 else 2
def stepG {P : Type} (mk : T → List P → P) (st : List P) (t : T) : List P := st.take (st.length - taken t.1) ++ [mk t (st.drop (st.length - taken t.1))]
def valG {P : Type} (mk : T → List P → P) : Tm → P
 | .tst a => mk (0,(a : Int)) []
 | .neg x => mk (1,0) [valG mk x]
 | .and x y => mk (2,0) [valG mk x,valG mk y]
 | .or x y => mk (3,0) [valG mk x,valG mk y]
theorem stepG_0 {P : Type} (mk : T → List P → P) (st : List P) (a : Int) : stepG mk st (0,a) = st ++ [mk (0,a) []] := by
 simp [stepG,taken]
theorem stepG_1 {P : Type} (mk : T → List P → P) (st : List P) (x : P) (a : Int) : stepG mk (st ++ [x]) (1,a) = st ++ [mk (1,a) [x]] := by
 simp [stepG,taken]
theorem stepG_2 {P : Type} (mk : T → List P → P) (st : List P) (x y : P) (k a : Int) (h : k = 2 ∨ k = 3) : stepG mk (st ++ [x,y]) (k,a) = st ++ [mk (k,a) [x,y]] := by
 have e : taken k = 2 := by unfold taken; rw [if_neg (by omega),if_neg (by omega)]
 simp [stepG,e]
theorem last1 {α : Type} {l : List α} (h : 1 ≤ l.length) : ∃ r x,l = r ++ [x] := by
 have := List.dropLast_concat_getLast (l := l) (by intro e; rw [e] at h; simp at h)
 exact ⟨_,_,this.symm⟩
theorem last2 {α : Type} {l : List α} (h : 2 ≤ l.length) : ∃ r x y,l = r ++ [x,y] := by
 obtain ⟨r,y,rfl⟩ := last1 (by omega : 1 ≤ l.length)
 obtain ⟨r',x,rfl⟩ := last1 (by simp at h; omega : 1 ≤ r.length)
 exact ⟨r',x,y,by simp⟩
theorem forest {m : Int} : ∀ {ts : List T} {p q : Int},runM m p ts = some q → ∀ F : List Tm,(F.length : Int) = p → (∀ x ∈ F,tb m x) →
  ∃ F' : List Tm,(F'.length : Int) = q ∧ (∀ x ∈ F',tb m x) ∧ F'.flatMap flt = F.flatMap flt ++ ts ∧ ∀ (P : Type) (mk : T → List P → P),ts.foldl (stepG mk) (F.map (valG mk)) = F'.map (valG mk)
 | [],p,q,h,F,hl,hb => by
  simp only [runM,Option.some.injEq] at h
  exact ⟨F,by omega,hb,by simp,fun P mk => rfl⟩
 | t :: ts,p,q,h,F,hl,hb => by
  simp only [runM] at h
  have go : ∀ (G : List Tm),runM m (G.length : Int) ts = some q → (∀ x ∈ G,tb m x) → G.flatMap flt = F.flatMap flt ++ [t] → (∀ (P : Type) (mk : T → List P → P),stepG mk (F.map (valG mk)) t = G.map (valG mk)) →
    ∃ F' : List Tm,(F'.length : Int) = q ∧ (∀ x ∈ F',tb m x) ∧ F'.flatMap flt = F.flatMap flt ++ (t :: ts) ∧ ∀ (P : Type) (mk : T → List P → P),(t :: ts).foldl (stepG mk) (F.map (valG mk)) = F'.map (valG mk) := by
   intro G h1 h2 h3 h4
   obtain ⟨F',q1,q2,q3,q4⟩ := forest h1 G rfl h2
   refine ⟨F',q1,q2,by rw [q3,h3]; simp,fun P mk => ?_⟩
   rw [List.foldl_cons,h4,q4]
  obtain ⟨k,a⟩ := t
  cases hm : mkS m p (k,a) with
  | none => rw [hm] at h; cases h
  | some p1 =>
   rw [hm] at h
   simp only at h
   unfold mkS at hm
   simp only at hm
   split at hm
   ·rename_i hk
    subst hk
    split at hm
    ·rename_i ha
     injection hm with hm
     obtain ⟨n,rfl⟩ := Int.eq_ofNat_of_zero_le ha.1
     refine go (F ++ [.tst n]) (by rw [show (((F ++ [Tm.tst n]).length : Nat) : Int) = p1 by simp; omega]; exact h) (fun x hx => ?_) (by simp [flt]) (fun P mk => by rw [stepG_0]; simp [valG])
     rcases List.mem_append.1 hx with h1 | h1
     ·exact hb x h1
     ·simp only [List.mem_singleton] at h1; subst h1; exact ha.2
    ·cases hm
   ·split at hm
    ·rename_i _ hk
     subst hk
     split at hm
     ·rename_i ha
      injection hm with hm
      obtain ⟨r,x,rfl⟩ := last1 (l := F) (by omega)
      have ha0 := ha.1
      subst ha0
      refine go (r ++ [.neg x]) (by rw [show (((r ++ [Tm.neg x]).length : Nat) : Int) = p1 by simp at hl ⊢; omega]; exact h) (fun y hy => ?_) (by simp [flt]) (fun P mk => by rw [List.map_append]; simp only [List.map_cons,List.map_nil]; rw [stepG_1]; simp [valG])
      rcases List.mem_append.1 hy with h1 | h1
      ·exact hb y (List.mem_append_left _ h1)
      ·simp only [List.mem_singleton] at h1; subst h1; exact hb x (by simp)
     ·cases hm
    ·split at hm
     ·rename_i _ _ hk
      split at hm
      ·rename_i ha
       injection hm with hm
       obtain ⟨r,x,y,rfl⟩ := last2 (l := F) (by omega)
       have ha0 := ha.1
       subst ha0
       have hx := hb x (by simp)
       have hy := hb y (by simp)
       rcases hk with rfl | rfl
       ·refine go (r ++ [.and x y]) (by rw [show (((r ++ [Tm.and x y]).length : Nat) : Int) = p1 by simp at hl ⊢; omega]; exact h) (fun z hz => ?_) (by simp [flt]) (fun P mk => by rw [List.map_append]; simp only [List.map_cons,List.map_nil]; rw [stepG_2 _ _ _ _ _ _ (.inl rfl)]; simp [valG])
        rcases List.mem_append.1 hz with h1 | h1
        ·exact hb z (List.mem_append_left _ h1)
        ·simp only [List.mem_singleton] at h1; subst h1; exact ⟨hx,hy⟩
       ·refine go (r ++ [.or x y]) (by rw [show (((r ++ [Tm.or x y]).length : Nat) : Int) = p1 by simp at hl ⊢; omega]; exact h) (fun z hz => ?_) (by simp [flt]) (fun P mk => by rw [List.map_append]; simp only [List.map_cons,List.map_nil]; rw [stepG_2 _ _ _ _ _ _ (.inr rfl)]; simp [valG])
        rcases List.mem_append.1 hz with h1 | h1
        ·exact hb z (List.mem_append_left _ h1)
        ·simp only [List.mem_singleton] at h1; subst h1; exact ⟨hx,hy⟩
      ·cases hm
     ·cases hm
theorem tm_tree {m : Int} {ts : List T} (h : tmOk m ts = true) : ∃ x,tb m x ∧ flt x = ts ∧ ∀ (P : Type) (mk : T → List P → P),ts.foldl (stepG mk) [] = [valG mk x] := by
 obtain ⟨_,_,h3⟩ := tmOk_iff.1 h
 obtain ⟨F,q1,q2,q3,q4⟩ := forest h3 [] rfl (by simp)
 match F,q1 with
 | [x],_ => exact ⟨x,q2 x (by simp),by simpa using q3,fun P mk => by simpa using q4 P mk⟩

def yesW (a : Nat) : BitVec 32 := match a with
 | 0 => 2863311530#32
 | 1 => 3435973836#32
 | 2 => 4042322160#32
 | 3 => 4278255360#32
 | _ => 4294901760#32
def mkW (t : T) (ps : List (BitVec 32)) : BitVec 32 :=
 if t.1 = 0 then yesW t.2.toNat else if t.1 = 1 then ~~~(ps.getD 0 0) else if t.1 = 2 then ps.getD 0 0 &&& ps.getD 1 0 else ps.getD 0 0 ||| ps.getD 1 0
end
section
theorem xor_bound {a b : Int} (h1 : 0 ≤ a) (h2 : a < 4611686018427387904) (h3 : 0 ≤ b) (h4 : b < 4611686018427387904) : 0 ≤ xorI a b ∧ xorI a b < 4611686018427387904 := by
 have e : (BitVec.ofInt 64 a ^^^ BitVec.ofInt 64 b).toNat = a.toNat ^^^ b.toNat := by
  simp only [BitVec.toNat_xor,BitVec.toNat_ofInt]
  congr 1 <;> omega
 have k : a.toNat ^^^ b.toNat < 2 ^ 62 := Nat.xor_lt_two_pow (by omega) (by omega)
 unfold xorI
 rw [e,wr_id (by omega) (by omega)]
 omega
def hs (bs : List Nat) (p : Int) : Int := (bs.getD (p.tmod bs.length).toNat 0 : Nat) * 131 + (bs.getD ((p * 7 + 3).tmod bs.length).toNat 0 : Nat) * 1117 + p * 29 + p.tdiv bs.length * 53
def pk (bs : List Nat) (p n : Int) : Int := if bs.length = 0 then 0 else if p < bs.length then ((bs.getD p.toNat 0 : Nat) : Int).tmod n else (xorI (hs bs p) ((hs bs p).tdiv 64)).tmod n
theorem byte_lt {bs : List Nat} (hb : ∀ y ∈ bs,y < 256) (i : Nat) : bs.getD i 0 < 256 := by
 by_cases h : i < bs.length
 ·have : bs.getD i 0 = bs[i] := by simp [List.getD,h]
  rw [this]
  exact hb _ (List.getElem_mem h)
 ·have : bs.getD i 0 = 0 := by simp [List.getD,List.getElem?_eq_none (by omega : bs.length ≤ i)]
  omega
theorem tdiv_bound {p l : Int} (h0 : 0 ≤ p) (hl : 1 ≤ l) : 0 ≤ p.tdiv l ∧ p.tdiv l ≤ p := by
 rw [Int.tdiv_eq_ediv_of_nonneg h0]
 exact ⟨Int.ediv_nonneg h0 (by omega),Int.ediv_le_self _ h0⟩
theorem tmod_bound {p l : Int} (h0 : 0 ≤ p) (hl : 1 ≤ l) : 0 ≤ p.tmod l ∧ p.tmod l < l := by
 rw [Int.tmod_eq_emod_of_nonneg h0]
 exact ⟨Int.emod_nonneg _ (by omega),Int.emod_lt_of_pos _ (by omega)⟩
theorem hs_bound {bs : List Nat} (hb : ∀ y ∈ bs,y < 256) {p : Int} (h0 : 0 ≤ p) (h1 : p ≤ 1000000) (hl : 1 ≤ bs.length) : 0 ≤ hs bs p ∧ hs bs p < 1000000000 := by
 have a := byte_lt hb (p.tmod bs.length).toNat
 have b := byte_lt hb ((p * 7 + 3).tmod bs.length).toNat
 have c := tdiv_bound (p := p) (l := bs.length) h0 (by omega)
 unfold hs
 omega
theorem pk_bound {bs : List Nat} (hb : ∀ y ∈ bs,y < 256) {p n : Int} (h0 : 0 ≤ p) (h1 : p ≤ 1000000) (hn : 1 ≤ n) : 0 ≤ pk bs p n ∧ pk bs p n < n := by
 unfold pk
 split
 ·omega
 ·split
  ·exact tmod_bound (by omega) hn
  ·have a := hs_bound hb h0 h1 (by omega)
   have b := tdiv_bound (p := hs bs p) (l := 64) a.1 (by omega)
   have c := xor_bound a.1 (by omega) b.1 (by omega)
   exact tmod_bound c.1 hn
theorem atI_y {bs : List Nat} {i : Int} (h0 : 0 ≤ i) (h1 : i < bs.length) : atI (bs.map .y) i = some (.y (bs.getD i.toNat 0)) := by
 have : i.toNat < bs.length := by omega
 simp [atI,h0,List.getD,this]

theorem c_pick {bs : List Nat} (hb : ∀ y ∈ bs,y < 256) (hl : bs.length ≤ 2000) {p n : Int} (h0 : 0 ≤ p) (h1 : p < 1000000) (hn : 1 ≤ n) :
  call lf n_spec_l20Rd_pick [.ref (.st [.sl 0 (bs.map .y),.i p]),.i n] = some (.i (pk bs p n),[.st [.sl 0 (bs.map .y),.i (p + 1)]]) := by
 rw [call_k lf n_spec_l20Rd_pick _ (F := F_spec_l20Rd_pick) rfl rfl]
 have w1 : wr (p + 1) = p + 1 := wr_id (by omega) (by omega)
 have w2 : wr p = p := wr_id (by omega) (by omega)
 have n1 : ¬ n < 1 := by omega
 have n2 : ¬ n = 0 := by omega
 by_cases e : bs.length = 0
 ·have e1 : ((bs.length : Int) == 0) = true := by rw [e]; rfl
  simp [F_spec_l20Rd_pick,w1,n1,e1,pk,e]
 ·have e1 : ((bs.length : Int) == 0) = false := beq_eq_false_iff_ne.2 (by omega)
  by_cases f : p < bs.length
  ·have a := atI_y (bs := bs) h0 f
   simp [F_spec_l20Rd_pick,w1,w2,n1,n2,e1,pk,e,f,a]
  ·have lpos : (1 : Int) ≤ bs.length := by omega
   have l0 : ¬ bs = [] := fun h => e (by rw [h]; rfl)
   have t1 := tmod_bound h0 lpos
   have t2 := tmod_bound (p := p * 7 + 3) (by omega) lpos
   have a1 := atI_y t1.1 t1.2
   have a2 := atI_y t2.1 t2.2
   have b1 := byte_lt hb (p.tmod bs.length).toNat
   have b2 := byte_lt hb ((p * 7 + 3).tmod bs.length).toNat
   have d := tdiv_bound h0 lpos
   have H := hs_bound hb h0 (by omega) (by omega : 1 ≤ bs.length)
   have hd : hs bs p = (bs.getD (p.tmod bs.length).toNat 0 : Nat) * 131 + (bs.getD ((p * 7 + 3).tmod bs.length).toNat 0 : Nat) * 1117 + p * 29 + p.tdiv bs.length * 53 := rfl
   have hp : pk bs p n = (xorI (hs bs p) ((hs bs p).tdiv 64)).tmod n := by unfold pk; rw [if_neg e,if_neg f]
   generalize bs.getD (p.tmod bs.length).toNat 0 = u at *
   generalize bs.getD ((p * 7 + 3).tmod bs.length).toNat 0 = v at *
   have v1 : wr (p * 7) = p * 7 := wr_id (by omega) (by omega)
   have v2 : wr (p * 7 + 3) = p * 7 + 3 := wr_id (by omega) (by omega)
   have v3 : wr ((u : Int) * 131) = u * 131 := wr_id (by omega) (by omega)
   have v4 : wr ((v : Int) * 1117) = v * 1117 := wr_id (by omega) (by omega)
   have v5 : wr ((u : Int) * 131 + v * 1117) = u * 131 + v * 1117 := wr_id (by omega) (by omega)
   have v6 : wr (p * 29) = p * 29 := wr_id (by omega) (by omega)
   have v7 : wr ((u : Int) * 131 + v * 1117 + p * 29) = u * 131 + v * 1117 + p * 29 := wr_id (by omega) (by omega)
   have v8 : wr (p.tdiv bs.length) = p.tdiv bs.length := wr_id (by omega) (by omega)
   have v9 : wr (p.tdiv bs.length * 53) = p.tdiv bs.length * 53 := wr_id (by omega) (by omega)
   have va : wr ((u : Int) * 131 + v * 1117 + p * 29 + p.tdiv bs.length * 53) = hs bs p := by rw [hd]; exact wr_id (by omega) (by omega)
   have b := tdiv_bound (p := hs bs p) (l := 64) H.1 (by omega)
   have vb : wr ((hs bs p).tdiv 64) = (hs bs p).tdiv 64 := wr_id (by omega) (by omega)
   simp [F_spec_l20Rd_pick,w1,w2,n1,n2,e1,f,l0,a1,a2,v1,v2,v3,v4,v5,v6,v7,v8,v9,va,vb,hp]
theorem c_odd {bs : List Nat} (hb : ∀ y ∈ bs,y < 256) (hl : bs.length ≤ 2000) {p n : Int} (h0 : 0 ≤ p) (h1 : p < 1000000) (hn : 1 ≤ n) (hn2 : n ≤ 1000000) :
  call lf n_spec_l20Rd_odd [.ref (.st [.sl 0 (bs.map .y),.i p]),.i n] = some (.b (pk bs p n == n - 1),[.st [.sl 0 (bs.map .y),.i (p + 1)]]) := by
 rw [call_k lf n_spec_l20Rd_odd _ (F := F_spec_l20Rd_odd) rfl rfl]
 have n1 : 0 < n := by omega
 have w : wr (n - 1) = n - 1 := wr_id (by omega) (by omega)
 simp [F_spec_l20Rd_odd,n1,w,c_pick hb hl h0 h1 hn]
theorem c_open {bs : List Nat} (hl : bs.length ≤ 1048576) : call lf n_spec_l20Open [.sl 0 (bs.map .y)] = some (.ref (.st [.sl 0 ((bs.take 2000).map .y),.i 0]),[]) := by
 rw [call_k lf n_spec_l20Open _ (F := F_spec_l20Open) rfl rfl]
 by_cases h : 2000 < (bs.length : Int)
 ·have h2 : (2000 : Int) ≤ bs.length := by omega
  have h3 : ∀ x ∈ bs,(DV.y x).cells.length = 1 := fun _ _ => rfl
  simp [F_spec_l20Open,h,h2,List.map_take]
 ·have h2 : bs.take 2000 = bs := List.take_of_length_le (by omega)
  simp [F_spec_l20Open,h,h2]

theorem take_b {bs : List Nat} (hb : ∀ y ∈ bs,y < 256) : (∀ y ∈ bs.take 2000,y < 256) ∧ (bs.take 2000).length ≤ 2000 :=
 ⟨fun y h => hb y (List.mem_of_mem_take h),by simp; omega⟩
end
section
theorem cells_st (cs : List DV) : (DV.st cs).cells = cs := rfl
theorem cells_sl (p : Nat) (es : List DV) : (DV.sl p es).cells = [DV.sl p es] := rfl
theorem cells_i (n : Int) : (DV.i n).cells = [DV.i n] := rfl
theorem cells_y (n : Nat) : (DV.y n).cells = [DV.y n] := rfl
theorem cells_b (n : Bool) : (DV.b n).cells = [DV.b n] := rfl
theorem cells_s (n : List UInt8) : (DV.s n).cells = [DV.s n] := rfl
attribute [-simp] DV.cells
attribute [local simp] cells_st cells_sl cells_i cells_y cells_b cells_s
def row (t : List T) : DV := .sl 1 (t.map e2)
theorem tk_row (ps : List (List T)) : List.take ps.length (ps.map row) = ps.map row := List.take_of_length_le (by simp)
theorem l_l20Term0 {bs : List Nat} (hb : ∀ y ∈ bs,y < 256) (hl : bs.length ≤ 2000) (m n : Int) (hm : m ≤ 5) (j : Nat) : ∀ (k p : Int) (ps : List (List T)),0 ≤ k → k + j = m → 0 ≤ p → p + j < 900000 → (∀ t ∈ ps,t.length = 1) → ps.length ≤ k →
  ∃ qs : List (List T),(∀ t ∈ qs,t.length = 1) ∧ qs.length ≤ m ∧ (ps ≠ [] ∨ (k = 0 ∧ 0 < j) → qs ≠ []) ∧
  ex lf F_spec_l20Term_W0 ⟨[(0,.oad 23 1 0 0),(1,.i m),(2,.i n),(7,.own 9736 ps.length 0 ps.length),(8,.b true),(9,.i k)],[(23,[.st [.sl 0 (bs.map .y),.i p]]),(9736,ps.map row)]⟩ =
   some (.exit 0,⟨[(0,.oad 23 1 0 0),(1,.i m),(2,.i n),(7,.own 9736 qs.length 0 qs.length),(8,.b true),(9,.i m)],[(23,[.st [.sl 0 (bs.map .y),.i (p + j)]]),(9736,qs.map row)]⟩) := by
 induction j with
 | zero =>
  intro k p ps h0 h1 h2 h3 h4 h5
  refine ⟨ps,h4,by omega,fun h => ?_,?_⟩
  ·rcases h with h | h
   ·exact h
   ·omega
  ·rw [w_spec_l20Term_0]
   have hk : k = m := by omega
   subst hk
   simp [F_spec_l20Term_L0]
 | succ j ih =>
  intro k p ps h0 h1 h2 h3 h4 h5
  have a1 := pk_bound hb h2 (by omega : p ≤ 1000000) (by omega : (1 : Int) ≤ 4)
  have k1 := c_pick hb hl h2 (by omega : p < 1000000) (by omega : (1 : Int) ≤ 4)
  have w1 : wr (k + 1) = k + 1 := wr_id (by omega) (by omega)
  have c1 : k < m := by omega
  have c2 : ps.length + 1 ≤ bound := by unfold bound; omega
  rw [w_spec_l20Term_0,show p + ((j + 1 : Nat) : Int) = p + 1 + j by omega]
  by_cases hc : 0 < pk bs p 4 ∨ k = 0
  ·obtain ⟨qs,q1,q2,q3,q4⟩ := ih (k + 1) (p + 1) (ps ++ [[(0,k)]]) (by omega) (by omega) (by omega) (by omega) (by
    intro t ht
    rcases List.mem_append.1 ht with h | h
    ·exact h4 t h
    ·rw [List.mem_singleton.1 h]; rfl) (by simp; omega)
   refine ⟨qs,q1,q2,fun _ => q3 (.inl (by simp)),?_⟩
   simp [row,e2] at q4
   by_cases h : 0 < pk bs p 4
   ·simp [F_spec_l20Term_L0,c1,c2,k1,w1,e2,row,tk_row,h,q4]
   ·have hk : k = 0 := by omega
    subst hk
    have w2 : wr 1 = 1 := wr_id (by omega) (by omega)
    rw [show (0 : Int) + 1 = 1 from rfl] at q4
    simp [F_spec_l20Term_L0,c1,c2,k1,w1,w2,e2,row,tk_row,h,q4]
  ·obtain ⟨qs,q1,q2,q3,q4⟩ := ih (k + 1) (p + 1) ps (by omega) (by omega) (by omega) (by omega) h4 (by omega)
   have h : ¬ (0 < pk bs p 4) := fun h => hc (.inl h)
   have hk : ¬ (k = 0) := fun h => hc (.inr h)
   refine ⟨qs,q1,q2,fun hh => q3 (.inl (by rcases hh with h | h; exact h; omega)),?_⟩
   have hk2 : (k == 0) = false := by simp [hk]
   simp [F_spec_l20Term_L0,c1,c2,k1,w1,e2,tk_row,h,hk,hk2,q4]
theorem l_l20Term0f {bs : List Nat} (m n k p : Int) (hk : k < m) : ex lf F_spec_l20Term_W0 ⟨[(0,.oad 23 1 0 0),(1,.i m),(2,.i n),(7,.own 9736 0 0 0),(8,.b false),(9,.i k)],[(23,[.st [.sl 0 (bs.map .y),.i p]]),(9736,[])]⟩ =
   some (.exit 0,⟨[(0,.oad 23 1 0 0),(1,.i m),(2,.i n),(7,.own 9736 0 0 0),(8,.b false),(9,.i k)],[(23,[.st [.sl 0 (bs.map .y),.i p]]),(9736,[])]⟩) := by
 rw [w_spec_l20Term_0]
 simp [F_spec_l20Term_L0,hk]
theorem l_l20Term1 {bs : List Nat} (hb : ∀ y ∈ bs,y < 256) (hl : bs.length ≤ 2000) (m n : Int) (h1 : 1 ≤ m) (hm : m ≤ 5) (j : Nat) : ∀ (p : Int) (ps : List (List T)),0 ≤ p → p + j < 900000 → (∀ t ∈ ps,t.length = 1) → ps.length + j ≤ 5 →
  ∃ qs : List (List T),(∀ t ∈ qs,t.length = 1) ∧ qs.length = ps.length + j ∧
  ex lf F_spec_l20Term_W1 ⟨[(0,.oad 23 1 0 0),(1,.i m),(2,.i n),(7,.own 9736 ps.length 0 ps.length),(8,.b false),(10,.i j)],[(23,[.st [.sl 0 (bs.map .y),.i p]]),(9736,ps.map row)]⟩ =
   some (.exit 2,⟨[(0,.oad 23 1 0 0),(1,.i m),(2,.i n),(7,.own 9736 qs.length 0 qs.length),(8,.b false),(10,.i 0)],[(23,[.st [.sl 0 (bs.map .y),.i (p + j)]]),(9736,qs.map row)]⟩) := by
 induction j with
 | zero =>
  intro p ps h2 h3 h4 h5
  refine ⟨ps,h4,by omega,?_⟩
  rw [w_spec_l20Term_1]
  simp [F_spec_l20Term_L1]
 | succ j ih =>
  intro p ps h2 h3 h4 h5
  have k1 := c_pick hb hl h2 (by omega : p < 1000000) h1
  have w1 : wr (j : Int) = j := wr_id (by omega) (by omega)
  have c1 : (0 : Int) < (j : Int) + 1 := by omega
  have c2 : ps.length + 1 ≤ bound := by unfold bound; omega
  rw [w_spec_l20Term_1,show p + ((j + 1 : Nat) : Int) = p + 1 + j by omega]
  obtain ⟨qs,q1,q2,q4⟩ := ih (p + 1) (ps ++ [[(0,pk bs p m)]]) (by omega) (by omega) (by
   intro t ht
   rcases List.mem_append.1 ht with h | h
   ·exact h4 t h
   ·rw [List.mem_singleton.1 h]; rfl) (by simp; omega)
  refine ⟨qs,q1,by rw [q2]; simp; omega,?_⟩
  simp [row,e2] at q4
  simp [F_spec_l20Term_L1,c1,c2,k1,w1,e2,row,tk_row,q4]
theorem l_l20Term1t {bs : List Nat} (m n j p : Int) (qs : List (List T)) : ex lf F_spec_l20Term_W1 ⟨[(0,.oad 23 1 0 0),(1,.i m),(2,.i n),(7,.own 9736 qs.length 0 qs.length),(8,.b true),(10,.i j)],[(23,[.st [.sl 0 (bs.map .y),.i p]]),(9736,qs.map row)]⟩ =
   some (.exit 2,⟨[(0,.oad 23 1 0 0),(1,.i m),(2,.i n),(7,.own 9736 qs.length 0 qs.length),(8,.b true),(10,.i j)],[(23,[.st [.sl 0 (bs.map .y),.i p]]),(9736,qs.map row)]⟩) := by
 rw [w_spec_l20Term_1]
 by_cases hj : 0 < j
 ·simp [F_spec_l20Term_L1,hj]
 ·simp [F_spec_l20Term_L1,hj]
theorem atI_row {ps : List (List T)} {A : Nat} {t : List T} (h : ps[A]? = some t) : atI (ps.map row) A = some (row t) := by
 simp [atI,h]
theorem row_wid (ps : List (List T)) (A : Nat) : ∀ e ∈ List.take A (ps.map row),e.cells.length = 1 := by
 intro e he
 obtain ⟨t,_,rfl⟩ := List.mem_map.1 (List.mem_of_mem_take he)
 rfl
theorem row_wid2 (ps : List (List T)) (A : Nat) : ∀ e ∈ List.drop A (ps.map row),e.cells.length = 1 := by
 intro e he
 obtain ⟨t,_,rfl⟩ := List.mem_map.1 (List.mem_of_mem_drop he)
 rfl
theorem e2_wid (t : List T) : ∀ e ∈ t.map e2,e.cells.length = 2 := by
 intro e he
 obtain ⟨t,_,rfl⟩ := List.mem_map.1 he
 rfl
theorem flat_set (m : T) : ∀ {ps : List (List T)} {A : Nat} {t : List T},ps[A]? = some t → (ps.set A (t ++ [m])).flatten.length = ps.flatten.length + 1
 | [],_,_,h => by simp at h
 | x :: ps,0,t,h => by simp at h; subst h; simp; omega
 | x :: ps,A + 1,t,h => by
  simp only [List.getElem?_cons_succ] at h
  have := flat_set m h
  simp at this ⊢
  omega
theorem flat_join (m : T) : ∀ {ps : List (List T)} {A : Nat} {t u : List T},ps[A]? = some t → ps[A + 1]? = some u → (ps.take A ++ [t ++ u ++ [m]] ++ ps.drop (A + 2)).flatten.length = ps.flatten.length + 1
 | [],_,_,_,h,_ => by simp at h
 | [x],0,t,u,h,h2 => by simp at h2
 | x :: y :: ps,0,t,u,h,h2 => by simp at h h2; subst h; subst h2; simp; omega
 | x :: ps,A + 1,t,u,h,h2 => by
  simp only [List.getElem?_cons_succ] at h h2
  have := flat_join m h h2
  simp at this ⊢
  omega
theorem flat_len : ∀ {ps : List (List T)} {A : Nat} {t : List T},ps[A]? = some t → t.length ≤ ps.flatten.length
 | [],_,_,h => by simp at h
 | x :: ps,0,t,h => by simp at h; subst h; simp
 | x :: ps,A + 1,t,h => by
  simp only [List.getElem?_cons_succ] at h
  have := flat_len h
  simp only [List.flatten_cons,List.length_append]; omega
theorem flat_pair : ∀ {ps : List (List T)} {A : Nat} {t u : List T},ps[A]? = some t → ps[A + 1]? = some u → t.length + u.length ≤ ps.flatten.length
 | [],_,_,_,h,_ => by simp at h
 | [x],0,t,u,h,h2 => by simp at h2
 | x :: y :: ps,0,t,u,h,h2 => by
  simp at h h2; subst h; subst h2
  simp only [List.flatten_cons,List.length_append]; omega
 | x :: ps,A + 1,t,u,h,h2 => by
  simp only [List.getElem?_cons_succ] at h h2
  have := flat_pair h h2
  simp only [List.flatten_cons,List.length_append]; omega
theorem atI_at {ps : List (List T)} {A : Nat} {t : List T} (h : ps[A]? = some t) : atN (ps.map row) A = some (row t) := by
 show (ps.map row)[A]? = _
 simp [h]
set_option maxHeartbeats 4000000 in
theorem l_l20Term2 {bs : List Nat} (hb : ∀ y ∈ bs,y < 256) (hl : bs.length ≤ 2000) (n : Int) (f : Nat) : ∀ (ps : List (List T)) (l p : Int) (K : Nat),(K = 9736 ∨ K = 56328) → ps ≠ [] → (∀ t ∈ ps,t ≠ []) → 0 ≤ l → ps.length + l ≤ f → ps.flatten.length + ps.length + l ≤ 12 → 0 ≤ p → p + 3 * f < 900000 →
  ∃ (t : List T) (l' p' : Int),t ≠ [] ∧ t.length ≤ 11 ∧ 0 ≤ l' ∧ p ≤ p' ∧ p' ≤ p + 3 * f ∧
  ex lf F_spec_l20Term_W2 ⟨[(0,.oad 23 1 0 0),(2,.i n),(7,.own K ps.length 0 ps.length),(11,.i l)],[(23,[.st [.sl 0 (bs.map .y),.i p]]),(K,ps.map row)]⟩ =
   some (.exit 4,⟨[(0,.oad 23 1 0 0),(2,.i n),(7,.own 9736 1 0 1),(11,.i l')],[(23,[.st [.sl 0 (bs.map .y),.i p']]),(9736,[row t])]⟩) := by
 induction f with
 | zero =>
  intro ps l p K hK hne hp h0 hf hW h1 h2
  have : ps.length ≠ 0 := fun h => hne (List.length_eq_zero_iff.1 h)
  omega
 | succ f ih =>
  intro ps l p K hK hne hp h0 hf hW h1 h2
  have hpl : ps.length ≠ 0 := fun h => hne (List.length_eq_zero_iff.1 h)
  by_cases hone : ps.length = 1
  ·obtain ⟨t,rfl⟩ := List.length_eq_one_iff.1 hone
   have ht := hp t (List.mem_singleton.2 rfl)
   refine ⟨t,l,p,ht,by simp at hW; omega,h0,by omega,by omega,?_⟩
   rw [w_spec_l20Term_2]
   rcases hK with rfl | rfl
   ·simp [F_spec_l20Term_L2]
   ·simp [F_spec_l20Term_L2]
  ·have hL : 2 ≤ ps.length := by omega
   have a1 := pk_bound hb h1 (by omega : p ≤ 1000000) (by omega : (1 : Int) ≤ (ps.length : Int) - 1)
   have k1 := c_pick hb hl h1 (by omega : p < 1000000) (by omega : (1 : Int) ≤ (ps.length : Int) - 1)
   obtain ⟨A,hA⟩ : ∃ A : Nat,pk bs p ((ps.length : Int) - 1) = A := ⟨(pk bs p ((ps.length : Int) - 1)).toNat,by omega⟩
   rw [hA] at k1 a1
   have hA2 : A + 1 < ps.length := by omega
   obtain ⟨t,ht⟩ : ∃ t,ps[A]? = some t := ⟨ps[A],List.getElem?_eq_getElem (by omega)⟩
   obtain ⟨u,hu⟩ : ∃ u,ps[A + 1]? = some u := ⟨ps[A + 1],List.getElem?_eq_getElem hA2⟩
   have i1 := atI_row ht
   have i2 := atI_row hu
   have k2 := c_pick hb hl (by omega : 0 ≤ p + 1) (by omega : p + 1 < 1000000) (by omega : (1 : Int) ≤ 4)
   have w0 : wr ((ps.length : Int) - 1) = (ps.length : Int) - 1 := wr_id (by omega) (by omega)
   have c1 : (1 : Int) < ps.length := by omega
   have l1 : ((List.map row ps).length) = ps.length := List.length_map ..
   by_cases hn : 0 < l ∧ pk bs (p + 1) 4 = 0
   ·obtain ⟨hn1,hn2⟩ := hn
    have w1 : wr (l - 1) = l - 1 := wr_id (by omega) (by omega)
    rw [hn2] at k2
    have hmem : ∀ x ∈ ps.set A (t ++ [(1,0)]),x ≠ [] := fun x hx => by
     rcases List.mem_or_eq_of_mem_set hx with h | h
     ·exact hp x h
     ·rw [h]; simp
    have hfl := flat_set (1,0) ht
    obtain ⟨t',l',p',b1,b2,b3,b4,b5,b6⟩ := ih (ps.set A (t ++ [(1,0)])) (l - 1) (p + 1 + 1) 9736 (.inl rfl) (by intro h; have := congrArg List.length h; simp at this; exact hne this) hmem (by omega) (by rw [List.length_set]; omega) (by rw [List.length_set,hfl]; omega) (by omega) (by omega)
    refine ⟨t',l',p',b1,b2,b3,by omega,by omega,?_⟩
    rw [w_spec_l20Term_2]
    simp [row,e2,List.map_set] at b6
    have tb : t.length + 1 ≤ bound := by have := flat_len ht; unfold bound; omega
    have lb : t.length ≤ bound := by omega
    have n1 := atI_at ht
    have wid := e2_wid t
    have tk1 : ∀ x,List.take (t.length + 1) (List.map e2 t ++ [x]) = List.map e2 t ++ [x] := fun x => List.take_of_length_le (by simp)
    have hA1 : A < ps.length := by omega
    simp only [row] at i1 n1
    rcases hK with rfl | rfl
    ·simp [F_spec_l20Term_L2,c1,k1,k2,w0,w1,tk_row,i1,hn1,hA1,n1,tb,lb,if_pos wid,tk1,row,e2,b6]
    ·simp [F_spec_l20Term_L2,c1,k1,k2,w0,w1,tk_row,i1,hn1,hA1,n1,tb,lb,if_pos wid,tk1,row,e2,b6]
   ·have key : ∀ q : Int,p + 1 ≤ q → q ≤ p + 2 → ∃ (t' : List T) (l' p' : Int),t' ≠ [] ∧ t'.length ≤ 11 ∧ 0 ≤ l' ∧ q + 1 ≤ p' ∧ p' ≤ q + 1 + 3 * f ∧
      ex lf F_spec_l20Term_W2 ⟨[(0,.oad 23 1 0 0),(2,.i n),(7,.own 56328 (A + 1 + (ps.length - (A + 2))) 0 (A + 1 + (ps.length - (A + 2)))),(11,.i l)],[(23,[.st [.sl 0 (bs.map .y),.i (q + 1)]]),(56328,List.take A (ps.map row) ++ row (t ++ u ++ [(2 + pk bs q 2,0)]) :: List.drop (A + 2) (ps.map row))]⟩ =
       some (.exit 4,⟨[(0,.oad 23 1 0 0),(2,.i n),(7,.own 9736 1 0 1),(11,.i l')],[(23,[.st [.sl 0 (bs.map .y),.i p']]),(9736,[row t'])]⟩) := by
     intro q hq1 hq2
     have hfl := flat_join (2 + pk bs q 2,0) ht hu
     have hlen : (ps.take A ++ [t ++ u ++ [(2 + pk bs q 2,0)]] ++ ps.drop (A + 2)).length = ps.length - 1 := by simp; omega
     have hlen2 : (ps.take A ++ [t ++ u ++ [(2 + pk bs q 2,0)]] ++ ps.drop (A + 2)).length = A + 1 + (ps.length - (A + 2)) := by rw [hlen]; omega
     have hmap : (ps.take A ++ [t ++ u ++ [(2 + pk bs q 2,0)]] ++ ps.drop (A + 2)).map row = List.take A (ps.map row) ++ row (t ++ u ++ [(2 + pk bs q 2,0)]) :: List.drop (A + 2) (ps.map row) := by simp [List.map_take,List.map_drop]
     rw [← hmap,← hlen2]
     refine ih _ l (q + 1) 56328 (.inr rfl) (by simp) (fun x hx => ?_) h0 (by rw [hlen]; omega) (by rw [hlen,hfl]; omega) (by omega) (by omega)
     simp only [List.append_assoc,List.mem_append,List.mem_singleton] at hx
     rcases hx with h | h | h
     ·exact hp x (List.mem_of_mem_take h)
     ·rw [h]; simp
     ·exact hp x (List.mem_of_mem_drop h)
    have w3 : wr ((A : Int) + 1) = (A : Int) + 1 := wr_id (by omega) (by omega)
    have w5 : wr ((A : Int) + 2) = (A : Int) + 2 := wr_id (by omega) (by omega)
    have i3 : atI (List.map row ps) ((A : Int) + 1) = some (row u) := by rw [show (A : Int) + 1 = ((A + 1 : Nat) : Int) by omega]; exact i2
    have hA1 : A < ps.length := by omega
    have f1 := flat_len ht
    have f2 := flat_len hu
    have wid := e2_wid t
    have wid2 := e2_wid u
    have n1 := atI_at ht
    have n2 := atI_at hu
    simp only [row] at i1 i3 n1 n2
    have tb1 : t.length ≤ bound := by unfold bound; omega
    have tb2 : t.length + u.length ≤ bound := by have := flat_pair ht hu; unfold bound; omega
    have tb3 : t.length + u.length + 1 ≤ bound := by have := flat_pair ht hu; unfold bound; omega
    have g1 : (0 : Int) ≤ (A : Int) + 1 := by omega
    have g2 : (A : Int) + 1 < (ps.length : Int) := by omega
    have g3 : (A : Int) ≤ (ps.length : Int) := by omega
    have g4 : (A : Int) + 2 ≤ (ps.length : Int) := by omega
    have g5 : (0 : Int) ≤ (A : Int) + 2 := by omega
    have g6 : A ≤ ps.length := by omega
    have g7 : A + 2 ≤ ps.length := by omega
    have m1 : min A ps.length = A := by omega
    have e1 : t.length + (u.length + 1) = t.length + u.length + 1 := by omega
    have tn : ((A : Int) + 2).toNat = A + 2 := by omega
    have q1 : A ≤ bound := by unfold bound; omega
    have q2 : A + 1 ≤ bound := by unfold bound; omega
    have q3 : A + 1 + (ps.length - (A + 2)) ≤ bound := by unfold bound; omega
    have wr1 := row_wid ps A
    have wr2 := row_wid2 ps (A + 2)
    have tk2 : List.take (t.length + u.length) (List.map e2 t ++ List.map e2 u) = List.map e2 t ++ List.map e2 u := List.take_of_length_le (by simp)
    have tk3 : ∀ x,List.take (t.length + u.length + 1) (List.map e2 t ++ (List.map e2 u ++ [x])) = List.map e2 t ++ (List.map e2 u ++ [x]) := fun x => List.take_of_length_le (by simp; omega)
    by_cases hl0 : 0 < l
    ·have hz : ¬ (pk bs (p + 1) 4 = 0) := fun h => hn ⟨hl0,h⟩
     have hz2 : (pk bs (p + 1) 4 == 0) = false := by simp [hz]
     have k3 := c_pick hb hl (by omega : 0 ≤ p + 1 + 1) (by omega : p + 1 + 1 < 1000000) (by omega : (1 : Int) ≤ 2)
     have a3 := pk_bound hb (by omega : 0 ≤ p + 1 + 1) (by omega : p + 1 + 1 ≤ 1000000) (by omega : (1 : Int) ≤ 2)
     have w4 : wr (2 + pk bs (p + 1 + 1) 2) = 2 + pk bs (p + 1 + 1) 2 := wr_id (by omega) (by omega)
     obtain ⟨t',l',p',b1,b2,b3,b4,b5,b6⟩ := key (p + 1 + 1) (by omega) (by omega)
     refine ⟨t',l',p',b1,b2,b3,by omega,by omega,?_⟩
     rw [w_spec_l20Term_2]
     simp [row,e2] at b6
     rcases hK with rfl | rfl
     ·simp [F_spec_l20Term_L2,c1,k1,k2,k3,w0,w3,w4,w5,tk_row,i1,i3,hl0,hz,hz2,hA1,hA2,n1,n2,tb1,tb2,tb3,g1,g2,g3,g4,g5,g6,g7,m1,q1,q2,q3,e1,tn,if_pos wr1,if_pos wr2,tk2,tk3,if_pos wid,if_pos wid2,row,e2,b6]
     ·simp [F_spec_l20Term_L2,c1,k1,k2,k3,w0,w3,w4,w5,tk_row,i1,i3,hl0,hz,hz2,hA1,hA2,n1,n2,tb1,tb2,tb3,g1,g2,g3,g4,g5,g6,g7,m1,q1,q2,q3,e1,tn,if_pos wr1,if_pos wr2,tk2,tk3,if_pos wid,if_pos wid2,row,e2,b6]
    ·have k3 := c_pick hb hl (by omega : 0 ≤ p + 1) (by omega : p + 1 < 1000000) (by omega : (1 : Int) ≤ 2)
     have a3 := pk_bound hb (by omega : 0 ≤ p + 1) (by omega : p + 1 ≤ 1000000) (by omega : (1 : Int) ≤ 2)
     have w4 : wr (2 + pk bs (p + 1) 2) = 2 + pk bs (p + 1) 2 := wr_id (by omega) (by omega)
     obtain ⟨t',l',p',b1,b2,b3,b4,b5,b6⟩ := key (p + 1) (by omega) (by omega)
     refine ⟨t',l',p',b1,b2,b3,by omega,by omega,?_⟩
     rw [w_spec_l20Term_2]
     simp [row,e2] at b6
     rcases hK with rfl | rfl
     ·simp [F_spec_l20Term_L2,c1,k1,k3,w0,w3,w4,w5,tk_row,i1,i3,hl0,hA1,hA2,n1,n2,tb1,tb2,tb3,g1,g2,g3,g4,g5,g6,g7,m1,q1,q2,q3,e1,tn,if_pos wr1,if_pos wr2,tk2,tk3,if_pos wid,if_pos wid2,row,e2,b6]
     ·simp [F_spec_l20Term_L2,c1,k1,k3,w0,w3,w4,w5,tk_row,i1,i3,hl0,hA1,hA2,n1,n2,tb1,tb2,tb3,g1,g2,g3,g4,g5,g6,g7,m1,q1,q2,q3,e1,tn,if_pos wr1,if_pos wr2,tk2,tk3,if_pos wid,if_pos wid2,row,e2,b6]
theorem atI_e0 {t : List T} (h : t ≠ []) : ∃ x xs,t = x :: xs := by
 cases t with
 | nil => exact absurd rfl h
 | cons x xs => exact ⟨x,xs,rfl⟩
theorem flat_ones : ∀ {ps : List (List T)},(∀ t ∈ ps,t.length = 1) → ps.flatten.length = ps.length
 | [],_ => rfl
 | x :: ps,h => by
  have h1 := h x (List.mem_cons_self ..)
  have h2 := flat_ones (fun t ht => h t (List.mem_cons_of_mem _ ht))
  simp only [List.flatten_cons,List.length_append,List.length_cons]; omega
/-- From the parts on. -/
def tailS (bs : List Nat) (n p : Int) (ps : List (List T)) : LS := ⟨[(0,.oad 23 1 0 0),(2,.i n),(7,.own 9736 ps.length 0 ps.length),(11,.i 2)],[(23,[.st [.sl 0 (bs.map .y),.i p]]),(9736,ps.map row)]⟩
theorem l_parts {bs : List Nat} (hb : ∀ y ∈ bs,y < 256) (hl : bs.length ≤ 2000) (n p : Int) (ps : List (List T)) (hne : ps ≠ []) (h1 : ∀ t ∈ ps,t.length = 1) (h5 : ps.length ≤ 5) (hp : 0 ≤ p) (hp2 : p < 800000) :
  ∃ (t : List T) (l' p' : Int),t ≠ [] ∧ t.length ≤ 11 ∧ p ≤ p' ∧ p' ≤ p + 30 ∧ ex lf F_spec_l20Term_W2 (tailS bs n p ps) = some (.exit 4,⟨[(0,.oad 23 1 0 0),(2,.i n),(7,.own 9736 1 0 1),(11,.i l')],[(23,[.st [.sl 0 (bs.map .y),.i p']]),(9736,[row t])]⟩) := by
 have hfl := flat_ones h1
 obtain ⟨t,l',p',b1,b2,b3,b4,b5,b6⟩ := l_l20Term2 hb hl n 7 ps 2 p 9736 (.inl rfl) hne (fun t ht => by have := h1 t ht; intro e; rw [e] at this; cases this) (by omega) (by omega) (by omega) hp (by omega)
 exact ⟨t,l',p',b1,b2,b4,by omega,b6⟩
end
section
attribute [-simp] DV.cells
attribute [local simp] cells_st cells_sl cells_i cells_y cells_b cells_s
theorem cells_w (x : BitVec 32) : (DV.w x).cells = [DV.w x] := rfl
attribute [local simp] cells_w
end
section
attribute [-simp] DV.cells
attribute [local simp] cells_st cells_sl cells_i cells_y cells_b cells_s cells_w
theorem at_mid {pre post : List T} {t : T} {k : Int} (hk : k = pre.length) : atI ((pre ++ t :: post).map e2) k = some (e2 t) := by
 subst hk
 simp [atI]
def stL (es : List DV) (need at_ : Int) : LS := ⟨[(0,.sl 0 es),(5,.i need),(6,.i at_)],[]⟩
set_option maxHeartbeats 4000000 in
theorem l_starts (es : List DV) (hl : es.length ≤ 100000) : ∀ (x : Tm) (pre post : List T) (need : Int),es = (pre ++ flt x ++ post).map e2 → 0 ≤ need → need + (flt x).length ≤ 1000000 →
  ex lf F_spec_l2Starts_W0 (stL es (need + 1) ((pre.length : Int) + (flt x).length - 1)) = ex lf F_spec_l2Starts_W0 (stL es need ((pre.length : Int) - 1)) := by
 intro x
 induction x with
 | tst a =>
  intro pre post need he hn hn2
  have hat := at_mid (pre := pre) (t := (0,(a : Int))) (post := post) (k := (pre.length : Int)) rfl
  have he' : es = (pre ++ (0,(a : Int)) :: post).map e2 := by rw [he]; simp [flt]
  rw [← he'] at hat
  simp only [e2] at hat
  have hn2 : need ≤ 1000000 := by omega
  have w1 : wr need = need := wr_id (by omega) (by omega)
  have hle : pre.length ≤ 100000 := by rw [he'] at hl; simp at hl; omega
  have w2 : wr ((pre.length : Int) - 1) = (pre.length : Int) - 1 := wr_id (by omega) (by omega)
  have c1 : 0 < need + 1 := by omega
  have e1 : (pre.length : Int) + ((flt (.tst a)).length : Nat) - 1 = pre.length := by simp [flt]
  rw [e1,w_spec_l2Starts_0]
  unfold stL
  simp [F_spec_l2Starts_L0,c1,hat,w1,w2]
 | neg x ih =>
  intro pre post need he hn hn2
  have he' : es = ((pre ++ flt x) ++ (1,0) :: post).map e2 := by rw [he]; simp [flt]
  have hat := at_mid (pre := pre ++ flt x) (t := (1,0)) (post := post) (k := (pre.length : Int) + (flt x).length) (by simp)
  rw [← he'] at hat
  simp only [e2] at hat
  have ih := ih pre ((1,0) :: post) need (by rw [he]; simp [flt]) hn (by simp [flt] at hn2; omega)
  have hle : pre.length + (flt x).length ≤ 100000 := by rw [he'] at hl; simp at hl; omega
  have w2 : wr ((pre.length : Int) + (flt x).length - 1) = (pre.length : Int) + (flt x).length - 1 := wr_id (by omega) (by omega)
  have c1 : 0 < need + 1 := by omega
  have e1 : (pre.length : Int) + ((flt (.neg x)).length : Nat) - 1 = pre.length + (flt x).length := by simp [flt]; omega
  rw [← ih,e1]
  conv => lhs; rw [w_spec_l2Starts_0]
  unfold stL
  simp [F_spec_l2Starts_L0,c1,hat,w2]
 | and x y ihx ihy =>
  intro pre post need he hn hn2
  have he' : es = ((pre ++ flt x ++ flt y) ++ (2,0) :: post).map e2 := by rw [he]; simp [flt]
  have hat := at_mid (pre := pre ++ flt x ++ flt y) (t := (2,0)) (post := post) (k := (pre.length : Int) + (flt x).length + (flt y).length) (by simp; omega)
  rw [← he'] at hat
  simp only [e2] at hat
  have hle : pre.length + (flt x).length + (flt y).length ≤ 100000 := by rw [he'] at hl; simp at hl; omega
  have px := flt_pos x
  have hn3 : need + (flt x).length + (flt y).length + 1 ≤ 1000000 := by simp [flt] at hn2; omega
  have i1 := ihx pre (flt y ++ (2,0) :: post) need (by rw [he]; simp [flt]) hn (by omega)
  have w1 : wr (need + 1 + 1) = need + 1 + 1 := wr_id (by omega) (by omega)
  have w2 : wr ((pre.length : Int) + (flt x).length + (flt y).length - 1) = (pre.length : Int) + (flt x).length + (flt y).length - 1 := wr_id (by omega) (by omega)
  have c1 : 0 < need + 1 := by omega
  have e1 : (pre.length : Int) + ((flt (.and x y)).length : Nat) - 1 = pre.length + (flt x).length + (flt y).length := by simp [flt]; omega
  have i2 := ihy (pre ++ flt x) ((2,0) :: post) (need + 1) (by rw [he]; simp [flt]) (by omega) (by omega)
  have e3 : (((pre ++ flt x).length : Nat) : Int) = pre.length + (flt x).length := by simp
  rw [e3] at i2
  rw [← i1,← i2,e1]
  conv => lhs; rw [w_spec_l2Starts_0]
  unfold stL
  simp [F_spec_l2Starts_L0,c1,hat,w1,w2]
 | or x y ihx ihy =>
  intro pre post need he hn hn2
  have he' : es = ((pre ++ flt x ++ flt y) ++ (3,0) :: post).map e2 := by rw [he]; simp [flt]
  have hat := at_mid (pre := pre ++ flt x ++ flt y) (t := (3,0)) (post := post) (k := (pre.length : Int) + (flt x).length + (flt y).length) (by simp; omega)
  rw [← he'] at hat
  simp only [e2] at hat
  have hle : pre.length + (flt x).length + (flt y).length ≤ 100000 := by rw [he'] at hl; simp at hl; omega
  have px := flt_pos x
  have hn3 : need + (flt x).length + (flt y).length + 1 ≤ 1000000 := by simp [flt] at hn2; omega
  have i1 := ihx pre (flt y ++ (3,0) :: post) need (by rw [he]; simp [flt]) hn (by omega)
  have w1 : wr (need + 1 + 1) = need + 1 + 1 := wr_id (by omega) (by omega)
  have w2 : wr ((pre.length : Int) + (flt x).length + (flt y).length - 1) = (pre.length : Int) + (flt x).length + (flt y).length - 1 := wr_id (by omega) (by omega)
  have c1 : 0 < need + 1 := by omega
  have e1 : (pre.length : Int) + ((flt (.or x y)).length : Nat) - 1 = pre.length + (flt x).length + (flt y).length := by simp [flt]; omega
  have i2 := ihy (pre ++ flt x) ((3,0) :: post) (need + 1) (by rw [he]; simp [flt]) (by omega) (by omega)
  have e3 : (((pre ++ flt x).length : Nat) : Int) = pre.length + (flt x).length := by simp
  rw [e3] at i2
  rw [← i1,← i2,e1]
  conv => lhs; rw [w_spec_l2Starts_0]
  unfold stL
  simp [F_spec_l2Starts_L0,c1,hat,w1,w2]
theorem c_spec_l2Starts (x : Tm) (pre post : List T) (hl : pre.length + (flt x).length + post.length ≤ 100000) :
  call lf n_spec_l2Starts [.sl 0 ((pre ++ flt x ++ post).map e2),.i ((pre.length : Int) + (flt x).length - 1)] = some (.i pre.length,[]) := by
 have L := l_starts ((pre ++ flt x ++ post).map e2) (by simp; omega) x pre post 0 rfl (by omega) (by omega)
 have L0 : ex lf F_spec_l2Starts_W0 (stL ((pre ++ flt x ++ post).map e2) 0 ((pre.length : Int) - 1)) = some (.exit 0,stL ((pre ++ flt x ++ post).map e2) 0 ((pre.length : Int) - 1)) := by
  rw [w_spec_l2Starts_0]
  unfold stL
  simp [F_spec_l2Starts_L0]
 rw [L0] at L
 have w : wr ((pre.length : Int)) = pre.length := wr_id (by omega) (by omega)
 rw [call_k lf n_spec_l2Starts _ (F := F_spec_l2Starts) rfl rfl]
 unfold stL at L
 simp at L
 simp [F_spec_l2Starts,L,w]
theorem cut_hi (ob : OB) (sz : Nat) {es : List DV} (wid : ∀ e ∈ es,e.cells.length = sz) {h : Nat} (hh : h ≤ es.length) : sliceD ob (.sl 0 es) sz none (some (h : Int)) = some (.sl 0 (es.take h)) := by
 unfold sliceD
 simp only [Option.getD_some,Option.getD_none]
 rw [if_pos ⟨Int.le_refl _,by omega,by omega,wid⟩]
 simp [cutP]
theorem cut_lohi (ob : OB) (sz : Nat) {es : List DV} (wid : ∀ e ∈ es,e.cells.length = sz) {l h : Nat} (hl : l ≤ h) (hh : h ≤ es.length) : sliceD ob (.sl 0 es) sz (some (l : Int)) (some (h : Int)) = some (.sl 0 ((es.take h).drop l)) := by
 unfold sliceD
 simp only [Option.getD_some]
 rw [if_pos ⟨by omega,by omega,by omega,wid⟩]
 simp [cutP]
attribute [-simp] sliceD
end
section
attribute [-simp] DV.cells
attribute [local simp] cells_st cells_sl cells_i cells_y cells_b cells_s cells_w
abbrev WP := List UInt8 × Int
def eWP (p : WP) : DV := .st [.s p.1,.i p.2]
def brk (least : Int) (p : WP) : List UInt8 := if p.2 ≥ least then [40] ++ p.1 ++ [41] else p.1
def mkT (t : T) (ps : List WP) : WP :=
 (if t.1 = 0 then [(97 + t.2).toNat.toUInt8] else if t.1 = 1 then [33] ++ brk 2 (ps.getD 0 ([],0)) else if t.1 = 2 then brk 3 (ps.getD 0 ([],0)) ++ [38] ++ brk 2 (ps.getD 1 ([],0)) else (ps.getD 0 ([],0)).1 ++ [124] ++ brk 3 (ps.getD 1 ([],0)),t.1)
theorem brk_len (l : Int) (p : WP) : (brk l p).length ≤ p.1.length + 2 := by
 unfold brk
 split
 ·simp
 ·omega
theorem c_impl_bracketedFrom (l : Int) (p : WP) (hp : p.1.length ≤ 100000) : call lf n_impl_bracketedFrom [.i l,eWP p] = some (.s (brk l p),[]) := by
 rw [call_k lf n_impl_bracketedFrom _ (F := F_impl_bracketedFrom) rfl rfl]
 have b1 : 1 + p.1.length ≤ bound := by unfold bound; omega
 have b2 : p.1.length + 1 + 1 ≤ bound := by unfold bound; omega
 unfold brk eWP
 by_cases h : p.2 ≥ l
 ·simp [F_impl_bracketedFrom,h,b1,b2]
 ·simp [F_impl_bracketedFrom,h]
theorem i32s : Go.IntKind.i32.wrap 97 = 97 ∧ Go.IntKind.i32.wrap 98 = 98 ∧ Go.IntKind.i32.wrap 99 = 99 ∧ Go.IntKind.i32.wrap 100 = 100 ∧ Go.IntKind.i32.wrap 101 = 101 := by decide
theorem c_impl_letterOf {a : Int} (h : 0 ≤ a ∧ a < 5) : call lf n_impl_letterOf [.i a] = some (.s [(97 + a).toNat.toUInt8],[]) := by
 have c5 : a = 0 ∨ a = 1 ∨ a = 2 ∨ a = 3 ∨ a = 4 := by omega
 have v0 : wr 97 = 97 := wr_id (by omega) (by omega)
 have v1 : wr 98 = 98 := wr_id (by omega) (by omega)
 have v2 : wr 99 = 99 := wr_id (by omega) (by omega)
 have v3 : wr 100 = 100 := wr_id (by omega) (by omega)
 have v4 : wr 101 = 101 := wr_id (by omega) (by omega)
 rw [call_k lf n_impl_letterOf _ (F := F_impl_letterOf) rfl rfl]
 rcases c5 with rfl | rfl | rfl | rfl | rfl <;> simp [F_impl_letterOf,v0,v1,v2,v3,v4,i32s]
set_option maxHeartbeats 4000000 in
theorem c_impl_writePart (k a : Int) (ps : List WP) (hlen : ∀ p ∈ ps,p.1.length ≤ 10000) (h : (k = 0 ∧ 0 ≤ a ∧ a < 5) ∨ (k = 1 ∧ 1 ≤ ps.length) ∨ ((k = 2 ∨ k = 3) ∧ 2 ≤ ps.length)) :
  call lf n_impl_writePart [.st [.i k,.i a],.sl 0 (ps.map eWP)] = some (eWP (mkT (k,a) ps),[]) := by
 rw [call_k lf n_impl_writePart _ (F := F_impl_writePart) rfl rfl]
 rcases h with ⟨rfl,h0,h5⟩ | ⟨rfl,h1⟩ | ⟨hk,h2⟩
 ·have C := c_impl_letterOf (a := a) ⟨h0,h5⟩
  simp [F_impl_writePart,mkT,eWP,C]
 ·obtain ⟨x,xs,rfl⟩ : ∃ x xs,ps = x :: xs := by cases ps with | nil => simp at h1 | cons x xs => exact ⟨x,xs,rfl⟩
  have l1 := hlen x (by simp)
  have B := c_impl_bracketedFrom 2 x (by omega)
  have b1 : 1 + (brk 2 x).length ≤ bound := by have := brk_len 2 x; unfold bound; omega
  unfold eWP at B
  simp [F_impl_writePart,mkT,atI,eWP,B,b1]
 ·obtain ⟨x,y,xs,rfl⟩ : ∃ x y xs,ps = x :: y :: xs := by
   match ps,h2 with
   | x :: y :: xs,_ => exact ⟨x,y,xs,rfl⟩
  have l1 := hlen x (by simp)
  have l2 := hlen y (by simp)
  have B := c_impl_bracketedFrom 2 y (by omega)
  have B3 := c_impl_bracketedFrom 3 y (by omega)
  have B4 := c_impl_bracketedFrom 3 x (by omega)
  have q1 := brk_len 2 y
  have q2 := brk_len 3 y
  have q3 := brk_len 3 x
  have b1 : (brk 3 x).length + 1 ≤ bound := by unfold bound; omega
  have b2 : (brk 3 x).length + ((brk 2 y).length + 1) ≤ bound := by unfold bound; omega
  have b3 : x.1.length + 1 ≤ bound := by unfold bound; omega
  have b4 : x.1.length + ((brk 3 y).length + 1) ≤ bound := by unfold bound; omega
  have b5 : (brk 3 x).length + 1 + (brk 2 y).length ≤ bound := by unfold bound; omega
  have b6 : x.1.length + 1 + (brk 3 y).length ≤ bound := by unfold bound; omega
  unfold eWP at B B3 B4
  rcases hk with rfl | rfl <;> simp [F_impl_writePart,mkT,atI,eWP,B,B3,B4,b1,b2,b3,b4,b5,b6]
end
section
attribute [-simp] DV.cells
attribute [local simp] cells_st cells_sl cells_i cells_y cells_b cells_s cells_w
/-- the stack lies in front of what was there -/
def stG (n k : Int) (es : List DV) (N : Nat) (g : List DV) (st : List WP) : LS :=
 ⟨[(1,.fn n_impl_writePart []),(4,.oad 2064 1 0 0),(5,.own 2576 N 0 st.length),(10,.sl 0 es),(11,.i n),(12,.i k)],[(2064,[.st [.s [],.i 0]]),(2576,st.map eWP ++ g)]⟩
set_option maxHeartbeats 4000000 in
theorem l_foldT0 (n k : Int) (es : List DV) (N : Nat) (g : List DV) (st : List WP) (hN : N = st.length + g.length) (hl : st.length ≤ 1000) (a : Int) (h0 : 0 ≤ a) (h5 : a < 5) (hk : k < n) (hat : atI es k = some (.st [.i 0,.i a])) (hw : wr (k + 1) = k + 1) :
  ∃ N' g',N' = (stepG mkT st (0,a)).length + g'.length ∧ ex lf F_impl_foldTerm_impl_writtenPart_L0 (stG n k es N g st) = some (.normal,stG n (k + 1) es N' g' (stepG mkT st (0,a))) := by
 have C := c_impl_writePart 0 a [] (by simp) (.inl ⟨rfl,h0,h5⟩)
 have P := c_impl_partsTaken 0
 have w1 : wr (st.length : Int) = st.length := wr_id (by omega) (by omega)
 have b1 : st.length + 1 ≤ bound := by unfold bound; omega
 rw [stepG_0]
 simp at C P
 simp only [eWP] at C
 cases g with
 | nil =>
  refine ⟨st.length + 1,[],by simp,?_⟩
  have hN' : N = st.length := by simpa using hN
  subst hN'
  unfold stG
  simp [F_impl_foldTerm_impl_writtenPart_L0,eWP,hk,hat,hw,C,P,w1,b1]
 | cons y g =>
  refine ⟨N,g,by simp at hN ⊢; omega,?_⟩
  have hL : (st.map eWP ++ y :: g).length = N := by rw [hN]; simp
  have t1 : List.take st.length (st.map eWP ++ y :: g) = st.map eWP := by rw [List.take_append_of_le_length (by simp),List.take_of_length_le (by simp)]
  have t2 : List.drop (st.length + 1) (st.map eWP ++ y :: g) = g := by rw [List.drop_append]; simp
  have n1 : st.length < N := by rw [hN]; simp
  have n2 : st.length + 1 ≤ N := by omega
  have n3 : ¬ st.length = N := by omega
  have n4 : st.length ≤ N := by omega
  have t4 : List.drop st.length (st.map eWP) = [] := List.drop_of_length_le (by simp)
  unfold stG
  generalize st.map eWP ++ y :: g = L at *
  simp [eWP,F_impl_foldTerm_impl_writtenPart_L0,hk,hat,hw,C,P,w1,b1,hL,t1,t2,t4,n1,n2,n3,n4]
set_option maxHeartbeats 4000000 in
theorem l_foldT1 (n k : Int) (es : List DV) (N : Nat) (g : List DV) (st : List WP) (x : WP) (hx : x.1.length ≤ 10000) (hN : N = (st ++ [x]).length + g.length) (hl : st.length ≤ 1000) (a : Int) (hk : k < n) (hat : atI es k = some (.st [.i 1,.i a])) (hw : wr (k + 1) = k + 1) :
  ∃ N' g',N' = (stepG mkT (st ++ [x]) (1,a)).length + g'.length ∧ ex lf F_impl_foldTerm_impl_writtenPart_L0 (stG n k es N g (st ++ [x])) = some (.normal,stG n (k + 1) es N' g' (stepG mkT (st ++ [x]) (1,a))) := by
 have C := c_impl_writePart 1 a [x] (by simpa using hx) (.inr (.inl ⟨rfl,by simp⟩))
 have P := c_impl_partsTaken 1
 have w1 : wr (st.length : Int) = st.length := wr_id (by omega) (by omega)
 have b1 : st.length + 1 ≤ bound := by unfold bound; omega
 rw [stepG_1]
 simp at C P hN
 simp only [eWP] at C
 refine ⟨N,g,by simp; omega,?_⟩
 have hL : ((st ++ [x]).map eWP ++ g).length = N := by rw [hN]; simp; omega
 have t1 : List.take st.length ((st ++ [x]).map eWP ++ g) = st.map eWP := by rw [List.map_append,List.append_assoc,List.take_append_of_le_length (by simp),List.take_of_length_le (by simp)]
 have t2 : List.drop (st.length + 1) ((st ++ [x]).map eWP ++ g) = g := by rw [List.drop_append]; simp
 have t3 : List.drop st.length (List.take (st.length + 1) ((st ++ [x]).map eWP ++ g)) = [eWP x] := by
  rw [List.take_append_of_le_length (by simp),List.take_of_length_le (by simp),List.map_append,List.drop_append]; simp
 have n1 : st.length < N := by omega
 have n2 : st.length + 1 ≤ N := by omega
 have n3 : ¬ st.length = N := by omega
 have n4 : st.length ≤ N := by omega
 have l1 : (st.length : Int) ≤ st.length + 1 := by omega
 unfold stG
 generalize (st ++ [x]).map eWP ++ g = L at *
 simp only [eWP] at t3
 simp [eWP,F_impl_foldTerm_impl_writtenPart_L0,hk,hat,hw,C,P,w1,b1,hL,t1,t2,t3,n1,n2,n3,n4,l1]
set_option maxHeartbeats 4000000 in
theorem l_foldT2 (n k : Int) (es : List DV) (N : Nat) (g : List DV) (st : List WP) (x y : WP) (hx : x.1.length ≤ 10000) (hy : y.1.length ≤ 10000) (hN : N = (st ++ [x,y]).length + g.length) (hl : st.length ≤ 1000) (c a : Int) (hc : c = 2 ∨ c = 3) (hk : k < n) (hat : atI es k = some (.st [.i c,.i a])) (hw : wr (k + 1) = k + 1) :
  ∃ N' g',N' = (stepG mkT (st ++ [x,y]) (c,a)).length + g'.length ∧ ex lf F_impl_foldTerm_impl_writtenPart_L0 (stG n k es N g (st ++ [x,y])) = some (.normal,stG n (k + 1) es N' g' (stepG mkT (st ++ [x,y]) (c,a))) := by
 have C := c_impl_writePart c a [x,y] (by simp; exact ⟨hx,hy⟩) (.inr (.inr ⟨hc,by simp⟩))
 have P := c_impl_partsTaken c
 rw [if_neg (by omega),if_neg (by omega)] at P
 have w1 : wr (st.length : Int) = st.length := wr_id (by omega) (by omega)
 have b1 : st.length + 1 ≤ bound := by unfold bound; omega
 rw [stepG_2 _ _ _ _ _ _ hc]
 simp at C hN
 simp only [eWP] at C
 refine ⟨N,eWP y :: g,by simp; omega,?_⟩
 have hL : ((st ++ [x,y]).map eWP ++ g).length = N := by rw [hN]; simp; omega
 have t1 : List.take st.length ((st ++ [x,y]).map eWP ++ g) = st.map eWP := by rw [List.map_append,List.append_assoc,List.take_append_of_le_length (by simp),List.take_of_length_le (by simp)]
 have t2 : List.drop (st.length + 1) ((st ++ [x,y]).map eWP ++ g) = eWP y :: g := by
  rw [List.map_append,List.append_assoc,List.drop_append]; simp
 have t3 : List.drop st.length (List.take (st.length + 2) ((st ++ [x,y]).map eWP ++ g)) = [eWP x,eWP y] := by
  rw [List.take_append_of_le_length (by simp),List.take_of_length_le (by simp),List.map_append,List.drop_append]; simp
 have n1 : st.length < N := by omega
 have n2 : st.length + 1 ≤ N := by omega
 have n3 : ¬ st.length = N := by omega
 have n4 : st.length ≤ N := by omega
 have n5 : st.length + 2 ≤ N := by omega
 have l1 : (st.length : Int) ≤ st.length + 2 := by omega
 have tn : ((st.length : Int) + 2).toNat = st.length + 2 := by omega
 unfold stG
 generalize (st ++ [x,y]).map eWP ++ g = L at *
 simp only [eWP] at t2 t3
 simp [eWP,F_impl_foldTerm_impl_writtenPart_L0,hk,hat,hw,C,P,w1,b1,hL,t1,t2,t3,n1,n2,n3,n4,n5,l1,tn]
def sumL (st : List WP) : Nat := (st.map fun p => p.1.length).sum
theorem sumL_app (a b : List WP) : sumL (a ++ b) = sumL a + sumL b := by simp [sumL]
theorem sumL_0 (st : List WP) (a : Int) : sumL (stepG mkT st (0,a)) ≤ sumL st + 5 := by
 rw [stepG_0,sumL_app]
 have : sumL [mkT (0,a) []] = 1 := by simp [sumL,mkT]
 omega
theorem sumL_1 (st : List WP) (x : WP) (a : Int) : sumL (stepG mkT (st ++ [x]) (1,a)) ≤ sumL (st ++ [x]) + 5 := by
 rw [stepG_1,sumL_app,sumL_app]
 have e : sumL [mkT (1,a) [x]] = 1 + (brk 2 x).length := by simp [sumL,mkT]; omega
 have e' : sumL [x] = x.1.length := by simp [sumL]
 have := brk_len 2 x
 omega
theorem sumL_2 (st : List WP) (x y : WP) (c a : Int) (hc : c = 2 ∨ c = 3) : sumL (stepG mkT (st ++ [x,y]) (c,a)) ≤ sumL (st ++ [x,y]) + 5 := by
 rw [stepG_2 _ _ _ _ _ _ hc,sumL_app,sumL_app]
 have e' : sumL [x,y] = x.1.length + y.1.length := by simp [sumL]
 have q1 := brk_len 2 y
 have q2 := brk_len 3 y
 have q3 := brk_len 3 x
 rcases hc with rfl | rfl
 ·have e : sumL [mkT (2,a) [x,y]] = (brk 3 x).length + 1 + (brk 2 y).length := by simp [sumL,mkT]; omega
  omega
 ·have e : sumL [mkT (3,a) [x,y]] = x.1.length + 1 + (brk 3 y).length := by simp [sumL,mkT]; omega
  omega
theorem l_foldT (m n : Int) (hm : m ≤ 5) (hb : n < 1000000) (es : List DV) : ∀ (rest : List T) (k p q : Int) (st : List WP) (N : Nat) (g : List DV),N = st.length + g.length → 0 ≤ k → k + rest.length = n → es.drop k.toNat = rest.map e2 → (st.length : Int) = p → runM m p rest = some q → st.length + rest.length ≤ 1000 → sumL st + 5 * rest.length ≤ 10000 →
  ∃ N' g',N' = (rest.foldl (stepG mkT) st).length + g'.length ∧ ex lf F_impl_foldTerm_impl_writtenPart_W0 (stG n k es N g st) = some (.exit 0,stG n n es N' g' (rest.foldl (stepG mkT) st))
 | [],k,p,q,st,N,g,hN,h0,hn,hd,hp,hr,hl,hS => by
  refine ⟨N,g,hN,?_⟩
  rw [w_impl_foldTerm_impl_writtenPart_0]
  have hk : k = n := by simpa using hn
  subst hk
  unfold stG
  simp [F_impl_foldTerm_impl_writtenPart_L0]
 | t :: rest,k,p,q,st,N,g,hN,h0,hn,hd,hp,hr,hl,hS => by
  obtain ⟨s1,s2,s3,s4,s5,s6⟩ := stp (es := es) (xs := rest.map e2) (x := e2 t) (k := k) (n := n) h0 (by simpa using hn) (by omega) (by simpa using hd)
  simp only [List.length_cons] at hl hS
  have hmk := hr
  simp only [runM] at hr
  cases hm' : mkS m p t with
  | none => rw [hm'] at hr; cases hr
  | some p1 =>
   rw [hm'] at hr
   simp only at hr
   obtain ⟨c,a⟩ := t
   simp only [e2] at s2
   have go : (∃ N1 g1,N1 = (stepG mkT st (c,a)).length + g1.length ∧ ex lf F_impl_foldTerm_impl_writtenPart_L0 (stG n k es N g st) = some (.normal,stG n (k + 1) es N1 g1 (stepG mkT st (c,a)))) → ((stepG mkT st (c,a)).length : Int) = p1 → (stepG mkT st (c,a)).length ≤ st.length + 1 → sumL (stepG mkT st (c,a)) ≤ sumL st + 5 →
     ∃ N' g',N' = (((c,a) :: rest).foldl (stepG mkT) st).length + g'.length ∧ ex lf F_impl_foldTerm_impl_writtenPart_W0 (stG n k es N g st) = some (.exit 0,stG n n es N' g' (((c,a) :: rest).foldl (stepG mkT) st)) := by
    rintro ⟨N1,g1,hN1,h1⟩ h2 h3 h4
    obtain ⟨N',g',q1,q2⟩ := l_foldT m n hm hb es rest (k + 1) p1 q (stepG mkT st (c,a)) N1 g1 hN1 s4 (by simpa using s5) s6 h2 hr (by omega) (by omega)
    refine ⟨N',g',q1,?_⟩
    rw [w_impl_foldTerm_impl_writtenPart_0,h1]
    exact q2
   unfold mkS at hm'
   simp only at hm'
   split at hm'
   ·rename_i hc
    subst hc
    split at hm'
    ·rename_i ha
     injection hm' with hm'
     exact go (l_foldT0 n k es N g st hN (by omega) a ha.1 (by omega) s1 s2 s3) (by rw [stepG_0]; simp; omega) (by rw [stepG_0]; simp) (sumL_0 _ _)
    ·cases hm'
   ·split at hm'
    ·rename_i _ hc
     subst hc
     split at hm'
     ·rename_i ha
      injection hm' with hm'
      obtain ⟨r,x,rfl⟩ := last1 (l := st) (by omega)
      have hl' := hl
      simp only [List.length_append,List.length_singleton] at hl hp
      exact go (l_foldT1 n k es N g r x (by rw [sumL_app] at hS; simp [sumL] at hS; omega) hN (by omega) a s1 s2 s3) (by rw [stepG_1]; simp; omega) (by rw [stepG_1]; simp) (sumL_1 _ _ _)
     ·cases hm'
    ·split at hm'
     ·rename_i _ _ hc
      split at hm'
      ·rename_i ha
       injection hm' with hm'
       obtain ⟨r,x,y,rfl⟩ := last2 (l := st) (by omega)
       simp only [List.length_append,List.length_cons,List.length_nil] at hl hp
       exact go (l_foldT2 n k es N g r x y (by rw [sumL_app] at hS; simp [sumL] at hS; omega) (by rw [sumL_app] at hS; simp [sumL] at hS; omega) hN (by omega) c a hc s1 s2 s3) (by rw [stepG_2 _ _ _ _ _ _ hc]; simp; omega) (by rw [stepG_2 _ _ _ _ _ _ hc]; simp) (sumL_2 _ _ _ _ _ hc)
      ·cases hm'
     ·cases hm'
theorem c_impl_foldTerm_WP {m : Int} {ts : List T} (h : tmOk m ts = true) {x : Tm} (hf : ts.foldl (stepG mkT) [] = [valG mkT x]) : call lf n_impl_foldTerm_impl_writtenPart [.sl 0 (ts.map e2),.fn n_impl_writePart []] = some (eWP (valG mkT x),[]) := by
 obtain ⟨h1,h2,h3⟩ := tmOk_iff.1 h
 obtain ⟨N',g',hN',L⟩ := l_foldT m ts.length h1.2 (by omega) (ts.map e2) ts 0 0 1 [] 0 [] rfl (Int.le_refl _) (by simp) (by simp) rfl h3 (by simp; omega) (by simp [sumL]; omega)
 rw [hf] at L hN'
 rw [call_k lf n_impl_foldTerm_impl_writtenPart _ (F := F_impl_foldTerm_impl_writtenPart) rfl rfl]
 unfold stG at L
 generalize valG mkT x = v at *
 simp [eWP] at L hN'
 have hL : g'.length + 1 = N' := by omega
 have n1 : 1 ≤ N' := by omega
 simp [F_impl_foldTerm_impl_writtenPart,L,hL,n1,eWP]
end
section
attribute [-simp] DV.cells sliceD
attribute [local simp] cells_st cells_sl cells_i cells_y cells_b cells_s cells_w
def lastK : Tm → Int
 | .tst _ => 0
 | .neg _ => 1
 | .and _ _ => 2
 | .or _ _ => 3
def txt : Tm → List UInt8
 | .tst a => [(97 + (a : Int)).toNat.toUInt8]
 | .neg x => [33] ++ brk 2 (txt x,lastK x)
 | .and x y => brk 3 (txt x,lastK x) ++ [38] ++ brk 2 (txt y,lastK y)
 | .or x y => txt x ++ [124] ++ brk 3 (txt y,lastK y)
theorem val_txt : ∀ x : Tm,valG mkT x = (txt x,lastK x)
 | .tst a => by simp [valG,mkT,txt,lastK]
 | .neg x => by simp [valG,mkT,txt,lastK,val_txt x]
 | .and x y => by simp [valG,mkT,txt,lastK,val_txt x,val_txt y]
 | .or x y => by simp [valG,mkT,txt,lastK,val_txt x,val_txt y]
theorem txt_len : ∀ x : Tm,(txt x).length ≤ 5 * (flt x).length
 | .tst a => by simp [txt,flt]
 | .neg x => by have := txt_len x; have := brk_len 2 (txt x,lastK x); simp [txt,flt] at *; omega
 | .and x y => by have := txt_len x; have := txt_len y; have := brk_len 3 (txt x,lastK x); have := brk_len 2 (txt y,lastK y); simp [txt,flt] at *; omega
 | .or x y => by have := txt_len x; have := txt_len y; have := brk_len 3 (txt y,lastK y); simp [txt,flt] at *; omega
def ttOf (m : Int) (ts : List T) : List UInt8 := if tmOk m ts then ((ts.foldl (stepG mkT) []).headD ([],0)).1 else []
theorem tt_tree {m : Int} {ts : List T} (h : tmOk m ts = true) : ∃ x,tb m x ∧ flt x = ts ∧ ttOf m ts = txt x ∧ ts.foldl (stepG mkT) [] = [valG mkT x] := by
 obtain ⟨x,h1,h2,h3⟩ := tm_tree h
 refine ⟨x,h1,h2,?_,h3 _ _⟩
 unfold ttOf
 rw [if_pos h,h3,val_txt]; rfl
theorem c_impl_TermText (m : Int) (ts : List T) (hb : (ts.length : Int) < 1099511627776) : call lf n_impl_TermText [.i m,.sl 0 (ts.map e2)] = some (.s (ttOf m ts),[]) := by
 rw [call_k lf n_impl_TermText _ (F := F_impl_TermText) rfl rfl]
 have C := c_impl_TermOk m ts hb
 cases h : tmOk m ts with
 | false =>
  rw [h] at C
  have e : ttOf m ts = [] := by unfold ttOf; rw [h]; rfl
  simp [F_impl_TermText,C,e]
 | true =>
  rw [h] at C
  obtain ⟨x,h1,h2,h3,h4⟩ := tt_tree h
  have W := c_impl_foldTerm_WP h h4
  rw [val_txt] at W
  simp only [eWP] at W
  rw [h3]
  simp [F_impl_TermText,C,W]
theorem last_at (x : Tm) : ∃ a : Int,atI ((flt x).map e2) (((flt x).length : Int) - 1) = some (.st [.i (lastK x),.i a]) := by
 have key : ∀ (p : List T) (t : T),atI ((p ++ [t]).map e2) (((p ++ [t]).length : Int) - 1) = some (.st [.i t.1,.i t.2]) := by
  intro p t
  have e : (((p ++ [t]).length : Nat) : Int) - 1 = p.length := by simp
  rw [e]
  have := at_mid (pre := p) (t := t) (post := []) (k := (p.length : Int)) rfl
  rw [this]; rfl
 cases x with
 | tst a => exact ⟨a,key [] (0,(a : Int))⟩
 | neg x => exact ⟨0,key (flt x) (1,0)⟩
 | and x y => exact ⟨0,key (flt x ++ flt y) (2,0)⟩
 | or x y => exact ⟨0,key (flt x ++ flt y) (3,0)⟩
theorem last_or (x : Tm) : lastK x = 0 ∨ lastK x = 1 ∨ lastK x = 2 ∨ lastK x = 3 := by cases x <;> simp [lastK]
theorem c_spec_l2Held {x : Tm} (hl : (flt x).length ≤ 1000) (C : call lf n_spec_l2Text [.sl 0 ((flt x).map e2)] = some (.s (txt x),[])) (b : Int) (hb : b = 0 ∨ b = 1 ∨ b = 2) :
  call lf n_spec_l2Held [.sl 0 ((flt x).map e2),.i b] = some (.s (brk (4 - b) (txt x,lastK x)),[]) := by
 obtain ⟨a,hat⟩ := last_at x
 have px := flt_pos x
 have tl := txt_len x
 have w1 : wr (((flt x).length : Int) - 1) = ((flt x).length : Int) - 1 := wr_id (by omega) (by omega)
 have lb1 : 1 + (txt x).length ≤ bound := by unfold bound; omega
 have lb2 : (txt x).length + 1 + 1 ≤ bound := by unfold bound; omega
 have hp : 0 ≤ ((flt x).length : Int) - 1 := by omega
 have hp2 : ((flt x).length : Int) - 1 < (flt x).length := by omega
 rw [call_k lf n_spec_l2Held _ (F := F_spec_l2Held) rfl rfl]
 unfold brk
 rcases last_or x with h | h | h | h <;> rw [h] at hat ⊢ <;> rcases hb with rfl | rfl | rfl <;> simp [F_spec_l2Held,w1,hat,C,lb1,lb2]
set_option maxHeartbeats 4000000 in
theorem c_spec_l2Text {m : Int} (hm : m ≤ 5) : ∀ {x : Tm},tb m x → (flt x).length ≤ 1000 → call lf n_spec_l2Text [.sl 0 ((flt x).map e2)] = some (.s (txt x),[]) := by
 intro x
 induction x with
 | tst a =>
  intro hb hl
  rw [call_k lf n_spec_l2Text _ (F := F_spec_l2Text) rfl rfl]
  have ha : (a : Int) < m := hb
  have w0 : wr (0 : Int) = 0 := wr_id (by omega) (by omega)
  have c5 : a = 0 ∨ a = 1 ∨ a = 2 ∨ a = 3 ∨ a = 4 := by omega
  rcases c5 with rfl | rfl | rfl | rfl | rfl <;> simp [F_spec_l2Text,flt,e2,atI,w0,txt,show wr 1 = 1 from wr_id (by omega) (by omega),show wr 2 = 2 from wr_id (by omega) (by omega),show wr 3 = 3 from wr_id (by omega) (by omega),show wr 4 = 4 from wr_id (by omega) (by omega),show wr 5 = 5 from wr_id (by omega) (by omega)]
 | neg x ih =>
  intro hb hl
  have ih := ih hb (by simp [flt] at hl; omega)
  simp [flt] at hl
  have H := c_spec_l2Held (x := x) (by omega) ih 2 (by omega)
  rw [call_k lf n_spec_l2Text _ (F := F_spec_l2Text) rfl rfl]
  have hat := at_mid (pre := flt x) (t := (1,0)) (post := []) (k := ((flt x).length : Int)) rfl
  simp [e2] at hat
  have w1 : wr ((flt x).length : Int) = (flt x).length := wr_id (by omega) (by omega)
  have S1 := fun ob => cut_hi ob 2 (e2_wid (flt x ++ [(1,0)])) (h := (flt x).length) (by simp)
  have t1 : List.take (flt x).length ((flt x ++ [(1,0)]).map e2) = (flt x).map e2 := by simp
  rw [t1] at S1
  simp [e2] at S1
  have bl := brk_len 2 (txt x,lastK x)
  have tl := txt_len x
  have lb1 : 1 + (brk 2 (txt x,lastK x)).length ≤ bound := by unfold bound; simp at bl; omega
  rw [show (4 : Int) - 2 = 2 from rfl] at H
  simp [F_spec_l2Text,flt,e2,w1,hat,H,S1,lb1,txt]
 | and x y ihx ihy =>
  intro hb hl
  simp [flt] at hl
  have ix := ihx hb.1 (by omega)
  have iy := ihy hb.2 (by omega)
  have Hx := c_spec_l2Held (x := x) (by omega) ix 1 (by omega)
  have Hy := c_spec_l2Held (x := y) (by omega) iy 2 (by omega)
  rw [call_k lf n_spec_l2Text _ (F := F_spec_l2Text) rfl rfl]
  have hat := at_mid (pre := flt x ++ flt y) (t := (2,0)) (post := []) (k := ((flt x).length : Int) + (flt y).length) (by simp)
  simp [e2] at hat
  have w1 : wr (((flt x).length : Int) + ((flt y).length + 1) - 1) = (flt x).length + (flt y).length := by rw [wr_id (by omega) (by omega)]; omega
  have w2 : wr ((flt x).length + (flt y).length - 1 : Int) = (flt x).length + (flt y).length - 1 := wr_id (by have := flt_pos x; omega) (by omega)
  have S := c_spec_l2Starts y (flt x) [(2,0)] (by simp; omega)
  simp [e2] at S
  have S1 := fun ob => cut_hi ob 2 (e2_wid (flt x ++ flt y ++ [(2,0)])) (h := (flt x).length) (by simp)
  have t1 : List.take (flt x).length ((flt x ++ flt y ++ [(2,0)]).map e2) = (flt x).map e2 := by simp
  rw [t1] at S1
  simp [e2] at S1
  have S2 := fun ob => cut_lohi ob 2 (e2_wid (flt x ++ flt y ++ [(2,0)])) (l := (flt x).length) (h := (flt x).length + (flt y).length) (by omega) (by simp)
  have t2 : List.drop (flt x).length (List.take ((flt x).length + (flt y).length) ((flt x ++ flt y ++ [(2,0)]).map e2)) = (flt y).map e2 := by
   rw [← List.map_take,← List.map_drop]
   congr 1
   have : List.take ((flt x).length + (flt y).length) (flt x ++ flt y ++ [(2,0)]) = flt x ++ flt y := by
    rw [← List.length_append]; exact List.take_left
   rw [this]; exact List.drop_left
  rw [t2] at S2
  simp [e2] at S2
  rw [show (4 : Int) - 1 = 3 from rfl] at Hx
  rw [show (4 : Int) - 2 = 2 from rfl] at Hy
  have bx := brk_len 3 (txt x,lastK x)
  have bY := brk_len 2 (txt y,lastK y)
  have tx := txt_len x
  have ty := txt_len y
  simp only at bx bY
  have lb1 : (brk 3 (txt x,lastK x)).length + 1 ≤ bound := by unfold bound; omega
  have lb2 : (brk 3 (txt x,lastK x)).length + 1 + (brk 2 (txt y,lastK y)).length ≤ bound := by unfold bound; omega
  have lb3 : (brk 3 (txt x,lastK x)).length + ((brk 2 (txt y,lastK y)).length + 1) ≤ bound := by omega
  simp [F_spec_l2Text,flt,e2,w1,w2,hat,Hx,Hy,S,S1,S2,lb1,lb2,lb3,txt]
 | or x y ihx ihy =>
  intro hb hl
  simp [flt] at hl
  have ix := ihx hb.1 (by omega)
  have iy := ihy hb.2 (by omega)
  have Hx := c_spec_l2Held (x := x) (by omega) ix 0 (by omega)
  have Hy := c_spec_l2Held (x := y) (by omega) iy 1 (by omega)
  have e4 : brk (4 - 0) (txt x,lastK x) = txt x := by
   unfold brk
   rw [if_neg]
   rcases last_or x with h | h | h | h <;> rw [h] <;> simp
  rw [e4] at Hx
  rw [call_k lf n_spec_l2Text _ (F := F_spec_l2Text) rfl rfl]
  have hat := at_mid (pre := flt x ++ flt y) (t := (3,0)) (post := []) (k := ((flt x).length : Int) + (flt y).length) (by simp)
  simp [e2] at hat
  have w1 : wr (((flt x).length : Int) + ((flt y).length + 1) - 1) = (flt x).length + (flt y).length := by rw [wr_id (by omega) (by omega)]; omega
  have w2 : wr ((flt x).length + (flt y).length - 1 : Int) = (flt x).length + (flt y).length - 1 := wr_id (by have := flt_pos x; omega) (by omega)
  have S := c_spec_l2Starts y (flt x) [(3,0)] (by simp; omega)
  simp [e2] at S
  have S1 := fun ob => cut_hi ob 2 (e2_wid (flt x ++ flt y ++ [(3,0)])) (h := (flt x).length) (by simp)
  have t1 : List.take (flt x).length ((flt x ++ flt y ++ [(3,0)]).map e2) = (flt x).map e2 := by simp
  rw [t1] at S1
  simp [e2] at S1
  have S2 := fun ob => cut_lohi ob 2 (e2_wid (flt x ++ flt y ++ [(3,0)])) (l := (flt x).length) (h := (flt x).length + (flt y).length) (by omega) (by simp)
  have t2 : List.drop (flt x).length (List.take ((flt x).length + (flt y).length) ((flt x ++ flt y ++ [(3,0)]).map e2)) = (flt y).map e2 := by
   rw [← List.map_take,← List.map_drop]
   congr 1
   have : List.take ((flt x).length + (flt y).length) (flt x ++ flt y ++ [(3,0)]) = flt x ++ flt y := by
    rw [← List.length_append]; exact List.take_left
   rw [this]; exact List.drop_left
  rw [t2] at S2
  simp [e2] at S2
  rw [show (4 : Int) - 1 = 3 from rfl] at Hy
  have bY := brk_len 3 (txt y,lastK y)
  have tx := txt_len x
  have ty := txt_len y
  simp only at bY
  have lb1 : (txt x).length + 1 ≤ bound := by unfold bound; omega
  have lb2 : (txt x).length + 1 + (brk 3 (txt y,lastK y)).length ≤ bound := by unfold bound; omega
  have lb3 : (txt x).length + ((brk 3 (txt y,lastK y)).length + 1) ≤ bound := by omega
  simp [F_spec_l2Text,flt,e2,w1,w2,hat,Hx,Hy,S,S1,S2,lb1,lb2,lb3,txt]
theorem c_spec_TermText (m : Int) (ts : List T) (hb : (ts.length : Int) < 1099511627776) : call lf n_spec_TermText [.i m,.sl 0 (ts.map e2)] = some (.s (ttOf m ts),[]) := by
 rw [call_k lf n_spec_TermText _ (F := F_spec_TermText) rfl rfl]
 have C := c_spec_TermOk m ts hb
 cases h : tmOk m ts with
 | false =>
  rw [h] at C
  have e : ttOf m ts = [] := by unfold ttOf; rw [h]; rfl
  simp [F_spec_TermText,C,e]
 | true =>
  rw [h] at C
  obtain ⟨h5,h6,_⟩ := tmOk_iff.1 h
  obtain ⟨x,h1,h2,h3,h4⟩ := tt_tree h
  have W := c_spec_l2Text (m := m) (by omega) h1 (by rw [h2]; omega)
  rw [h2] at W
  rw [h3]
  simp [F_spec_TermText,C,W]
end
section
attribute [-simp] DV.cells
attribute [local simp] cells_st cells_sl cells_i cells_y cells_b cells_s cells_w
abbrev PR := Option (List T × List UInt8)
def rowL (part : List UInt8 → PR) (sign : Nat) (kind : Int) : Nat → List T → List UInt8 → PR
 | 0,p,r => some (p,r)
 | n + 1,p,r => match r with
  | [] => some (p,[])
  | c :: r' => if c.toNat = sign then match part r' with
    | none => none
    | some (q,r'') => rowL part sign kind n (p ++ q ++ [(kind,0)]) r''
   else some (p,c :: r')
def rowP (part : List UInt8 → PR) (sign : Nat) (kind : Int) (s : List UInt8) : PR := match part s with
 | none => none
 | some (p,r) => rowL part sign kind r.length p r
def pAtm : Nat → List UInt8 → PR
 | 0,_ => none
 | _ + 1,[] => none
 | f + 1,c :: r =>
  if c.toNat = 33 then match pAtm f r with
   | none => none
   | some (p,q) => some (p ++ [(1,0)],q)
  else if c.toNat = 40 then match rowP (rowP (pAtm f) 38 2) 124 3 r with
   | some (p,d :: q) => if d.toNat = 41 then some (p,q) else none
   | _ => none
  else if 97 ≤ c.toNat ∧ c.toNat ≤ 101 then some ([(0,(c.toNat : Int) - 97)],r) else none
def pAnd (f : Nat) (s : List UInt8) : PR := rowP (pAtm f) 38 2 s
def pOr (f : Nat) (s : List UInt8) : PR := rowP (pAnd f) 124 3 s
/-- what a part leaves is a rest,and marks fewer than twice what it took -/
def fine (part : List UInt8 → PR) : Prop := ∀ s p r,part s = some (p,r) → p ≠ [] ∧ (∃ a,a ≠ [] ∧ s = a ++ r ∧ p.length + 1 ≤ 2 * a.length)
theorem fine_len {part : List UInt8 → PR} (h : fine part) {s : List UInt8} {p : List T} {r : List UInt8} (e : part s = some (p,r)) : r.length < s.length ∧ p.length + 2 * r.length + 1 ≤ 2 * s.length ∧ 0 < p.length := by
 obtain ⟨h1,a,h2,h3,h4⟩ := h s p r e
 have := List.length_pos_iff.2 h2
 have := List.length_pos_iff.2 h1
 have := congrArg List.length h3
 simp at this
 omega
theorem rowL_fine {part : List UInt8 → PR} (h : fine part) (sign : Nat) (kind : Int) : ∀ (n : Nat) (p : List T) (r : List UInt8) (p' : List T) (r' : List UInt8),p ≠ [] → rowL part sign kind n p r = some (p',r') → p' ≠ [] ∧ ∃ a,r = a ++ r' ∧ p'.length ≤ p.length + 2 * a.length
 | 0,p,r,p',r',hp,e => by
  simp only [rowL,Option.some.injEq,Prod.mk.injEq] at e
  obtain ⟨rfl,rfl⟩ := e
  exact ⟨hp,[],rfl,by simp⟩
 | n + 1,p,r,p',r',hp,e => by
  simp only [rowL] at e
  cases r with
  | nil =>
   simp only [Option.some.injEq,Prod.mk.injEq] at e
   obtain ⟨rfl,rfl⟩ := e
   exact ⟨hp,[],rfl,by simp⟩
  | cons c r0 =>
   simp only at e
   split at e
   ·split at e
    ·cases e
    ·rename_i q r1 hq
     obtain ⟨_,a,_,ha,hb⟩ := h r0 q r1 hq
     obtain ⟨g1,a',g2,g3⟩ := rowL_fine h sign kind n _ r1 p' r' (by simp) e
     refine ⟨g1,c :: a ++ a',by rw [ha,g2]; simp,?_⟩
     simp at g3 ⊢
     omega
   ·simp only [Option.some.injEq,Prod.mk.injEq] at e
    obtain ⟨rfl,rfl⟩ := e
    exact ⟨hp,[],rfl,by simp⟩
theorem rowP_fine {part : List UInt8 → PR} (h : fine part) (sign : Nat) (kind : Int) : fine (rowP part sign kind) := by
 intro s p r e
 unfold rowP at e
 split at e
 ·cases e
 ·rename_i p0 r0 h0
  obtain ⟨g1,a,g2,g3,g4⟩ := h s p0 r0 h0
  obtain ⟨k1,a',k2,k3⟩ := rowL_fine h sign kind _ _ _ _ _ g1 e
  exact ⟨k1,a ++ a',by simp [g2],by rw [g3,k2]; simp,by simp; omega⟩
theorem pA_fine : ∀ f,fine (pAtm f)
 | 0 => fun s p r e => by simp [pAtm] at e
 | f + 1 => fun s p r e => by
  cases s with
  | nil => simp [pAtm] at e
  | cons c s =>
   simp only [pAtm] at e
   split at e
   ·split at e
    ·cases e
    ·rename_i q r1 hq
     obtain ⟨g1,a,g2,g3,g4⟩ := pA_fine f _ _ _ hq
     simp only [Option.some.injEq,Prod.mk.injEq] at e
     obtain ⟨rfl,rfl⟩ := e
     exact ⟨by simp,c :: a,by simp,by rw [g3]; simp,by simp; omega⟩
   ·split at e
    ·split at e
     ·rename_i q d r1 hq
      obtain ⟨g1,a,g2,g3,g4⟩ := rowP_fine (rowP_fine (pA_fine f) 38 2) 124 3 _ _ _ hq
      split at e
      ·simp only [Option.some.injEq,Prod.mk.injEq] at e
       obtain ⟨rfl,rfl⟩ := e
       exact ⟨g1,c :: a ++ [d],by simp,by rw [g3]; simp,by simp; omega⟩
      ·cases e
     ·cases e
    ·split at e
     ·simp only [Option.some.injEq,Prod.mk.injEq] at e
      obtain ⟨rfl,rfl⟩ := e
      exact ⟨by simp,[c],by simp,by simp,by simp⟩
     ·cases e
def encP (o : PR) : DV := match o with
 | none => .tup [.fr 2 [],.s []]
 | some (p,r) => .tup [.fr 2 (p.map e2),.s r]
def stR (sign : Nat) (kind : Int) (f : Nat) (p : List T) (r : List UInt8) : LS :=
 ⟨[(1,.y sign),(2,.i kind),(3,.fn f []),(10,.own 8209 p.length 0 p.length),(11,.s r)],[(8209,p.map e2)]⟩
set_option maxHeartbeats 4000000 in
theorem l_readRow {part : List UInt8 → PR} (hf : fine part) {f : Nat} (sign : Nat) (kind : Int) : ∀ (n : Nat) (p : List T) (r : List UInt8),r.length ≤ n → (∀ s,s.length < r.length → call lf f [.s s] = some (encP (part s),[])) → p ≠ [] → p.length + 2 * r.length ≤ 1000000 →
  ex lf F_impl_readRow_W0 (stR sign kind f p r) = match rowL part sign kind n p r with
   | none => some (.ret,⟨[(8,.own 4112 0 0 0),(9,.s [])],[(4112,[])]⟩)
   | some (p',r') => some (.exit 0,stR sign kind f p' r') := by
 intro n
 induction n with
 | zero =>
  intro p r hn H hp hl
  have : r = [] := List.eq_nil_of_length_eq_zero (by omega)
  subst this
  have lp : 0 < p.length := List.length_pos_iff.2 hp
  rw [w_impl_readRow_0]
  unfold stR
  simp [F_impl_readRow_L0,lp,rowL]
 | succ n ih =>
  intro p r hn H hp hl
  have lp : 0 < p.length := List.length_pos_iff.2 hp
  rw [w_impl_readRow_0]
  cases r with
  | nil =>
   unfold stR
   simp [F_impl_readRow_L0,lp,rowL]
  | cons c r0 =>
   simp only [List.length_cons] at hn hl
   simp only [rowL]
   by_cases hc : c.toNat = sign
   ·rw [if_pos hc]
    have K := H r0 (by simp)
    have l1 : 1 ≤ (r0.length : Int) + 1 := by omega
    cases hq : part r0 with
    | none =>
     rw [hq] at K
     simp only [encP] at K
     unfold stR
     simp [F_impl_readRow_L0,lp,hc,l1,K]
    | some v =>
     obtain ⟨q,r1⟩ := v
     rw [hq] at K
     simp only [encP] at K
     obtain ⟨g1,g2,g3⟩ := fine_len hf hq
     have I := ih (p ++ q ++ [(kind,0)]) r1 (by omega) (fun s hs => H s (by simp; omega)) (by simp) (by simp; omega)
     have lb1 : p.length + q.length ≤ bound := by unfold bound; omega
     have lb2 : p.length + (q.length + 1) ≤ bound := by unfold bound; omega
     have lq : ¬ q = [] := fun h => by rw [h] at g3; simp at g3
     have qn : ¬ q.length = 0 := by omega
     have qn' : ((q.length : Int) == 0) = false := beq_eq_false_iff_ne.2 (by omega)
     simp only [hq]
     rw [← I]
     unfold stR
     simp [F_impl_readRow_L0,lp,hc,l1,K,lb1,lb2,qn',lq,if_pos (e2_wid q),e2,Nat.add_assoc]
   ·rw [if_neg hc]
    have hc' : (c.toNat == sign) = false := beq_eq_false_iff_ne.2 hc
    unfold stR
    simp [F_impl_readRow_L0,lp,hc']
set_option maxHeartbeats 4000000 in
theorem c_readRow {part : List UInt8 → PR} (hf : fine part) {f : Nat} (sign : Nat) (kind : Int) (s : List UInt8) (hl : s.length ≤ 100000) (H : ∀ s',s'.length ≤ s.length → call lf f [.s s'] = some (encP (part s'),[])) :
  call lf n_impl_readRow [.s s,.y sign,.i kind,.fn f []] = some (encP (rowP part sign kind s),[]) := by
 rw [call_k lf n_impl_readRow _ (F := F_impl_readRow) rfl rfl]
 have K := H s (Nat.le_refl _)
 unfold rowP
 cases hp : part s with
 | none =>
  rw [hp] at K
  simp only [encP] at K
  have W : ex lf F_impl_readRow_W0 ⟨[(1,.y sign),(2,.i kind),(3,.fn f []),(10,.own 8209 0 0 0),(11,.s [])],[(8209,[])]⟩ = some (.exit 0,⟨[(1,.y sign),(2,.i kind),(3,.fn f []),(10,.own 8209 0 0 0),(11,.s [])],[(8209,[])]⟩) := by
   rw [w_impl_readRow_0]
   simp [F_impl_readRow_L0]
  simp [F_impl_readRow,K,W,encP]
 | some v =>
  obtain ⟨p,r⟩ := v
  rw [hp] at K
  simp only [encP] at K
  obtain ⟨g1,g2,g3⟩ := fine_len hf hp
  have L := l_readRow hf (f := f) sign kind r.length p r (Nat.le_refl _) (fun s' hs => H s' (by omega)) (List.length_pos_iff.1 g3) (by omega)
  simp only
  cases hw : rowL part sign kind r.length p r with
  | none =>
   rw [hw] at L
   unfold stR at L
   simp only at L
   simp [F_impl_readRow,K,L,encP]
  | some u =>
   obtain ⟨p',r'⟩ := u
   rw [hw] at L
   unfold stR at L
   simp only at L
   simp [F_impl_readRow,K,L,encP]
theorem c_impl_placeOf (c : UInt8) : call lf n_impl_placeOf [.y c.toNat] = some (.i ((c.toNat : Int) - 97),[]) := by
 have hc : c.toNat < 256 := c.toNat_lt
 have w1 : wr ((c.toNat : Int) - 97) = (c.toNat : Int) - 97 := wr_id (by omega) (by omega)
 rw [call_k lf n_impl_placeOf _ (F := F_impl_placeOf) rfl rfl]
 simp [F_impl_placeOf,w1]
theorem c_readLetter (c : UInt8) (r : List UInt8) : call lf n_impl_readLetter [.s (c :: r)] = some (encP (if 97 ≤ c.toNat ∧ c.toNat ≤ 101 then some ([(0,(c.toNat : Int) - 97)],r) else none),[]) := by
 rw [call_k lf n_impl_readLetter _ (F := F_impl_readLetter) rfl rfl]
 have P := c_impl_placeOf c
 have l1 : 1 ≤ (r.length : Int) + 1 := by omega
 have W := c_impl_isWithin ((c.toNat : Int) - 97) 0 4
 by_cases h : 97 ≤ c.toNat ∧ c.toNat ≤ 101
 ·have e : decide ((0 : Int) ≤ (c.toNat : Int) - 97 ∧ (c.toNat : Int) - 97 ≤ 4) = true := decide_eq_true (by omega)
  rw [e] at W
  rw [if_pos h]
  simp [F_impl_readLetter,P,W,l1,encP,e2]
 ·have e : decide ((0 : Int) ≤ (c.toNat : Int) - 97 ∧ (c.toNat : Int) - 97 ≤ 4) = false := decide_eq_false (by omega)
  rw [e] at W
  rw [if_neg h]
  simp [F_impl_readLetter,P,W,encP]
theorem c_readAnd {n : Nat} (hn : n ≤ 100000) (H : ∀ s,s.length ≤ n → call lf n_impl_readNot [.s s] = some (encP (pAtm n s),[])) : ∀ s,s.length ≤ n → call lf n_impl_readAnd [.s s] = some (encP (pAnd n s),[]) := by
 intro s hs
 have R := c_readRow (pA_fine n) (f := n_impl_readNot) 38 2 s (by omega) (fun s' h => H s' (by omega))
 have e : rowP (pAtm n) 38 2 s = pAnd n s := rfl
 rw [e] at R
 rw [call_k lf n_impl_readAnd _ (F := F_impl_readAnd) rfl rfl]
 cases h : pAnd n s with
 | none => rw [h] at R; simp only [encP] at R; simp [F_impl_readAnd,R,encP]
 | some v => obtain ⟨p,r⟩ := v; rw [h] at R; simp only [encP] at R; simp [F_impl_readAnd,R,encP]
theorem c_readOr {n : Nat} (hn : n ≤ 100000) (H : ∀ s,s.length ≤ n → call lf n_impl_readNot [.s s] = some (encP (pAtm n s),[])) : ∀ s,s.length ≤ n → call lf n_impl_readOr [.s s] = some (encP (pOr n s),[]) := by
 intro s hs
 have R := c_readRow (rowP_fine (pA_fine n) 38 2) (f := n_impl_readAnd) 124 3 s (by omega) (fun s' h => c_readAnd hn H s' (by omega))
 have e : rowP (rowP (pAtm n) 38 2) 124 3 s = pOr n s := rfl
 rw [e] at R
 rw [call_k lf n_impl_readOr _ (F := F_impl_readOr) rfl rfl]
 cases h : pOr n s with
 | none => rw [h] at R; simp only [encP] at R; simp [F_impl_readOr,R,encP]
 | some v => obtain ⟨p,r⟩ := v; rw [h] at R; simp only [encP] at R; simp [F_impl_readOr,R,encP]
set_option maxHeartbeats 4000000 in
theorem c_readNot : ∀ (n : Nat),n ≤ 100000 → ∀ s : List UInt8,s.length ≤ n → call lf n_impl_readNot [.s s] = some (encP (pAtm n s),[]) := by
 intro n
 induction n with
 | zero =>
  intro _ s hs
  have : s = [] := List.eq_nil_of_length_eq_zero (by omega)
  subst this
  rw [call_k lf n_impl_readNot _ (F := F_impl_readNot) rfl rfl]
  simp [F_impl_readNot,pAtm,encP]
 | succ n ih =>
  intro hn s hs
  have ih := ih (by omega)
  cases s with
  | nil =>
   rw [call_k lf n_impl_readNot _ (F := F_impl_readNot) rfl rfl]
   simp [F_impl_readNot,pAtm,encP]
  | cons c r =>
   simp only [List.length_cons] at hs
   have N := ih r (by omega)
   have O := c_readOr (by omega) ih r (by omega)
   have E : rowP (rowP (pAtm n) 38 2) 124 3 r = pOr n r := rfl
   have Lt := c_readLetter c r
   have l1 : 1 ≤ (r.length : Int) + 1 := by omega
   rw [call_k lf n_impl_readNot _ (F := F_impl_readNot) rfl rfl]
   simp only [pAtm,E]
   by_cases h1 : c.toNat = 33
   ·rw [if_pos h1]
    cases hq : pAtm n r with
    | none =>
     rw [hq] at N
     simp only [encP] at N
     simp [F_impl_readNot,h1,l1,N,encP]
    | some v =>
     obtain ⟨p,q⟩ := v
     rw [hq] at N
     simp only [encP] at N
     obtain ⟨g1,g2,g3⟩ := fine_len (pA_fine n) hq
     have pn : ((p.length : Int) == 0) = false := beq_eq_false_iff_ne.2 (by omega)
     have pn2 : ¬ p = [] := List.length_pos_iff.1 g3
     have lb : p.length + 1 ≤ bound := by unfold bound; omega
     simp [F_impl_readNot,h1,l1,N,encP,pn,pn2,lb,e2]
   ·rw [if_neg h1]
    have h1' : (c.toNat == 33) = false := beq_eq_false_iff_ne.2 h1
    by_cases h2 : c.toNat = 40
    ·rw [if_pos h2]
     cases hq : pOr n r with
     | none =>
      rw [hq] at O
      simp only [encP] at O
      simp [F_impl_readNot,h2,l1,O,encP]
     | some v =>
      obtain ⟨p,q⟩ := v
      rw [hq] at O
      simp only [encP] at O
      cases q with
      | nil => simp [F_impl_readNot,h2,l1,O,encP]
      | cons d q =>
       have l2 : 1 ≤ (q.length : Int) + 1 := by omega
       by_cases h3 : d.toNat = 41
       ·simp [F_impl_readNot,h2,l1,l2,O,encP,h3]
       ·have h3' : (d.toNat != 41) = true := bne_iff_ne.2 h3
        simp [F_impl_readNot,h2,l1,O,encP,h3,h3']
    ·rw [if_neg h2]
     have h2' : (c.toNat == 40) = false := beq_eq_false_iff_ne.2 h2
     by_cases h4 : 97 ≤ c.toNat ∧ c.toNat ≤ 101
     ·rw [if_pos h4] at Lt ⊢
      simp only [encP] at Lt
      simp [F_impl_readNot,h1',h2',Lt,encP,e2]
     ·rw [if_neg h4] at Lt ⊢
      simp only [encP] at Lt
      simp [F_impl_readNot,h1',h2',Lt,encP]
/-- the term whose text a text is -/
def rdOf (m : Int) (s : List UInt8) : Option (List T) := if 80 < s.length then none else match pOr s.length s with
 | some (p,[]) => if tmOk m p = true ∧ ttOf m p = s then some p else none
 | _ => none
theorem pOr_len {n : Nat} {s : List UInt8} {p : List T} {r : List UInt8} (h : pOr n s = some (p,r)) : p.length ≤ 2 * s.length := by
 have := fine_len (rowP_fine (rowP_fine (pA_fine n) 38 2) 124 3) h
 omega
set_option maxHeartbeats 4000000 in
theorem c_impl_ReadTerm (m : Int) (s : List UInt8) (hl : s.length ≤ 1073741824) : call lf n_impl_ReadTerm [.i m,.s s] = some (.tup [.fr 2 (((rdOf m s).getD []).map e2),.b (rdOf m s).isSome],[]) := by
 rw [call_k lf n_impl_ReadTerm _ (F := F_impl_ReadTerm) rfl rfl]
 unfold rdOf
 by_cases h : 80 < s.length
 ·have h' : (80 : Int) < s.length := by omega
  simp [F_impl_ReadTerm,h,h']
 ·have h' : ¬ ((80 : Int) < s.length) := by omega
  have O := c_readOr (n := s.length) (by omega) (c_readNot s.length (by omega)) s (Nat.le_refl _)
  rw [if_neg h]
  cases hq : pOr s.length s with
  | none =>
   rw [hq] at O
   simp only [encP] at O
   have C := c_impl_TermOk m [] (by simp)
   have e : tmOk m [] = false := by
    rw [← Bool.not_eq_true]; intro hh
    have := (tmOk_iff.1 hh).2.2
    simp [runM] at this
   rw [e] at C
   simp at C
   simp [F_impl_ReadTerm,h,h',O,C]
  | some v =>
   obtain ⟨p,r⟩ := v
   rw [hq] at O
   simp only [encP] at O
   have pl := pOr_len hq
   have C := c_impl_TermOk m p (by omega)
   have X := c_impl_TermText m p (by omega)
   have lb : p.length ≤ bound := by unfold bound; omega
   cases r with
   | cons c r => simp [F_impl_ReadTerm,h,h',O]
   | nil =>
    simp only
    cases ht : tmOk m p with
    | false => rw [ht] at C; simp [F_impl_ReadTerm,h,h',O,C,lb]
    | true =>
     rw [ht] at C
     by_cases hx : ttOf m p = s
     ·simp [F_impl_ReadTerm,h,h',O,C,X,lb,hx]
     ·have hx' : (ttOf m p == s) = false := beq_eq_false_iff_ne.2 hx
      simp [F_impl_ReadTerm,h,h',O,C,X,lb,hx,hx']
end
section
attribute [-simp] DV.cells
attribute [local simp] cells_st cells_sl cells_i cells_y cells_b cells_s cells_w
def sp (f : Nat) (part : List UInt8 → PR) (s : List UInt8) (k : Nat) : Prop :=
 ∃ (g : List T) (z : Int),g.length ≤ 2 * (s.length - k) + 2 ∧ call lf f [.s s,.i k] = some (.tup [.fr 2 (g.map e2),.i z],[]) ∧
  match part (s.drop k) with
   | none => z = -1
   | some (p,r) => g = p ∧ z = (s.length : Int) - r.length
def stS (s : List UInt8) (K : Nat) (p : List T) (z : Int) : LS := ⟨[(0,.s s),(6,.own K p.length 0 p.length),(7,.i z)],[(K,p.map e2)]⟩
theorem drop_rest {part : List UInt8 → PR} (hf : fine part) {s : List UInt8} {k : Nat} {p : List T} {r : List UInt8} (h : part (s.drop k) = some (p,r)) : s.drop (s.length - r.length) = r := by
 obtain ⟨_,a,_,ha,_⟩ := hf _ _ _ h
 obtain ⟨b,hb⟩ : ∃ b,s = b ++ r := ⟨s.take k ++ a,by rw [List.append_assoc,← ha,List.take_append_drop]⟩
 rw [hb,List.length_append,Nat.add_sub_cancel,List.drop_left]

set_option maxHeartbeats 4000000 in
theorem l_spec_l2And {part : List UInt8 → PR} (hf : fine part) (s : List UInt8) (hl : s.length ≤ 1000) (n0 : Nat) (H : ∀ k,k ≤ s.length → s.length - k ≤ n0 → sp n_spec_l2Atom part s k) : ∀ (n : Nat) (p : List T) (k : Nat) (K : Nat),(K = 6673 ∨ K = 18960) → k ≤ s.length → s.length - k ≤ n → s.length - k ≤ n0 + 1 → p.length + 2 * (s.length - k) ≤ 10000 →
  ∃ (g : List T) (z : Int),g.length ≤ p.length + 2 * (s.length - k) + 1 ∧ ex lf F_spec_l2And_W0 (stS s K p k) = some (.exit 0,stS s 6673 g z) ∧
   match rowL part 38 2 n p (s.drop k) with
    | none => z = -1
    | some (p',r') => g = p' ∧ z = (s.length : Int) - r'.length := by
 intro n
 induction n with
 | zero =>
  intro p k K hK hk hn hn0 hp
  have : k = s.length := by omega
  subst this
  refine ⟨p,s.length,by omega,?_,by simp [rowL]⟩
  rw [w_spec_l2And_0]
  unfold stS
  rcases hK with rfl | rfl <;> simp [F_spec_l2And_L0]
 | succ n ih =>
  intro p k K hK hk hn hn0 hp
  rw [w_spec_l2And_0]
  by_cases hks : k = s.length
  ·subst hks
   refine ⟨p,s.length,by omega,?_,by simp [rowL]⟩
   unfold stS
   rcases hK with rfl | rfl <;> simp [F_spec_l2And_L0]
  ·have hlt : k < s.length := by omega
   have hlt' : (k : Int) < s.length := by omega
   have dk : s.drop k = s[k] :: s.drop (k + 1) := List.drop_eq_getElem_cons hlt
   have at1 : s[k]? = some s[k] := List.getElem?_eq_getElem hlt
   rw [dk]
   simp only [rowL]
   by_cases hc : s[k].toNat = 38
   ·rw [if_pos hc]
    obtain ⟨q,z1,q1,q2,q3⟩ := H (k + 1) (by omega) (by omega)
    have w1 : wr ((k : Int) + 1) = ((k + 1 : Nat) : Int) := by rw [wr_id (by omega) (by omega)]; omega
    have lb1 : p.length ≤ bound := by unfold bound; omega
    have lb2 : p.length + q.length ≤ bound := by unfold bound; omega
    have lb3 : p.length + (q.length + 1) ≤ bound := by unfold bound; omega
    have step : ex lf F_spec_l2And_L0 (stS s K p k) = some (.normal,stS s 18960 (p ++ q ++ [(2,0)]) z1) := by
     unfold stS
     rcases hK with rfl | rfl <;> simp [F_spec_l2And_L0,hlt,hlt',at1,hc,w1,q2,lb1,lb2,lb3,if_pos (e2_wid p),if_pos (e2_wid q),e2,Nat.add_assoc,-Int.natCast_add]
    rw [step]
    simp only
    cases hq : part (s.drop (k + 1)) with
    | none =>
     rw [hq] at q3
     simp only at q3
     subst q3
     refine ⟨p ++ q ++ [(2,0)],-1,by simp; omega,?_,rfl⟩
     rw [w_spec_l2And_0]
     unfold stS
     simp [F_spec_l2And_L0]
    | some v =>
     obtain ⟨q',r1⟩ := v
     rw [hq] at q3
     simp only at q3
     obtain ⟨rfl,hz⟩ := q3
     obtain ⟨f1,f2,f3⟩ := fine_len hf hq
     rw [List.length_drop] at f1 f2
     have suff : s.drop (s.length - r1.length) = r1 := drop_rest hf hq
     have hz' : z1 = ((s.length - r1.length : Nat) : Int) := by omega
     subst hz'
     obtain ⟨g,z,g1,g2,g3⟩ := ih (p ++ q ++ [(2,0)]) (s.length - r1.length) 18960 (.inr rfl) (by omega) (by omega) (by omega) (by simp; omega)
     rw [suff] at g3
     refine ⟨g,z,by simp at g1; omega,g2,g3⟩
   ·rw [if_neg hc]
    have hc' : (s[k].toNat == 38) = false := beq_eq_false_iff_ne.2 hc
    refine ⟨p,k,by omega,?_,?_⟩
    ·unfold stS
     rcases hK with rfl | rfl <;> simp [F_spec_l2And_L0,hlt,hlt',at1,hc']
    ·refine ⟨rfl,?_⟩
     rw [← dk,List.length_drop]; omega
set_option maxHeartbeats 4000000 in
theorem c_spec_l2And {part : List UInt8 → PR} (hf : fine part) (s : List UInt8) (hl : s.length ≤ 1000) (n0 : Nat) (H : ∀ k,k ≤ s.length → s.length - k ≤ n0 → sp n_spec_l2Atom part s k) : ∀ k,k ≤ s.length → s.length - k ≤ n0 → sp n_spec_l2And (rowP part 38 2) s k := by
 intro k hk hn
 obtain ⟨p,z1,q1,q2,q3⟩ := H k hk hn
 unfold sp
 rw [call_k lf n_spec_l2And _ (F := F_spec_l2And) rfl rfl]
 unfold rowP
 cases hp : part (s.drop k) with
 | none =>
  rw [hp] at q3
  simp only at q3
  subst q3
  have W : ex lf F_spec_l2And_W0 (stS s 6673 p (-1)) = some (.exit 0,stS s 6673 p (-1)) := by
   rw [w_spec_l2And_0]
   unfold stS
   simp [F_spec_l2And_L0]
  unfold stS at W
  exact ⟨p,-1,q1,by simp [F_spec_l2And,q2,W],rfl⟩
 | some v =>
  obtain ⟨p',r⟩ := v
  rw [hp] at q3
  simp only at q3
  obtain ⟨rfl,hz⟩ := q3
  obtain ⟨f1,f2,f3⟩ := fine_len hf hp
  rw [List.length_drop] at f1 f2
  have suff : s.drop (s.length - r.length) = r := drop_rest hf hp
  have hz' : z1 = ((s.length - r.length : Nat) : Int) := by omega
  subst hz'
  obtain ⟨g,z,g1,g2,g3⟩ := l_spec_l2And hf s hl n0 H r.length p (s.length - r.length) 6673 (.inl rfl) (by omega) (by omega) (by omega) (by omega)
  rw [suff] at g3
  unfold stS at g2
  refine ⟨g,z,by omega,?_,g3⟩
  simp [F_spec_l2And,q2,g2]

set_option maxHeartbeats 4000000 in
theorem l_spec_l2Or {part : List UInt8 → PR} (hf : fine part) (s : List UInt8) (hl : s.length ≤ 1000) (n0 : Nat) (H : ∀ k,k ≤ s.length → s.length - k ≤ n0 → sp n_spec_l2And part s k) : ∀ (n : Nat) (p : List T) (k : Nat) (K : Nat),(K = 6673 ∨ K = 18960) → k ≤ s.length → s.length - k ≤ n → s.length - k ≤ n0 + 1 → p.length + 2 * (s.length - k) ≤ 10000 →
  ∃ (g : List T) (z : Int),g.length ≤ p.length + 2 * (s.length - k) + 1 ∧ ex lf F_spec_l2Or_W0 (stS s K p k) = some (.exit 0,stS s 6673 g z) ∧
   match rowL part 124 3 n p (s.drop k) with
    | none => z = -1
    | some (p',r') => g = p' ∧ z = (s.length : Int) - r'.length := by
 intro n
 induction n with
 | zero =>
  intro p k K hK hk hn hn0 hp
  have : k = s.length := by omega
  subst this
  refine ⟨p,s.length,by omega,?_,by simp [rowL]⟩
  rw [w_spec_l2Or_0]
  unfold stS
  rcases hK with rfl | rfl <;> simp [F_spec_l2Or_L0]
 | succ n ih =>
  intro p k K hK hk hn hn0 hp
  rw [w_spec_l2Or_0]
  by_cases hks : k = s.length
  ·subst hks
   refine ⟨p,s.length,by omega,?_,by simp [rowL]⟩
   unfold stS
   rcases hK with rfl | rfl <;> simp [F_spec_l2Or_L0]
  ·have hlt : k < s.length := by omega
   have hlt' : (k : Int) < s.length := by omega
   have dk : s.drop k = s[k] :: s.drop (k + 1) := List.drop_eq_getElem_cons hlt
   have at1 : s[k]? = some s[k] := List.getElem?_eq_getElem hlt
   rw [dk]
   simp only [rowL]
   by_cases hc : s[k].toNat = 124
   ·rw [if_pos hc]
    obtain ⟨q,z1,q1,q2,q3⟩ := H (k + 1) (by omega) (by omega)
    have w1 : wr ((k : Int) + 1) = ((k + 1 : Nat) : Int) := by rw [wr_id (by omega) (by omega)]; omega
    have lb1 : p.length ≤ bound := by unfold bound; omega
    have lb2 : p.length + q.length ≤ bound := by unfold bound; omega
    have lb3 : p.length + (q.length + 1) ≤ bound := by unfold bound; omega
    have step : ex lf F_spec_l2Or_L0 (stS s K p k) = some (.normal,stS s 18960 (p ++ q ++ [(3,0)]) z1) := by
     unfold stS
     rcases hK with rfl | rfl <;> simp [F_spec_l2Or_L0,hlt,hlt',at1,hc,w1,q2,lb1,lb2,lb3,if_pos (e2_wid p),if_pos (e2_wid q),e2,Nat.add_assoc,-Int.natCast_add]
    rw [step]
    simp only
    cases hq : part (s.drop (k + 1)) with
    | none =>
     rw [hq] at q3
     simp only at q3
     subst q3
     refine ⟨p ++ q ++ [(3,0)],-1,by simp; omega,?_,rfl⟩
     rw [w_spec_l2Or_0]
     unfold stS
     simp [F_spec_l2Or_L0]
    | some v =>
     obtain ⟨q',r1⟩ := v
     rw [hq] at q3
     simp only at q3
     obtain ⟨rfl,hz⟩ := q3
     obtain ⟨f1,f2,f3⟩ := fine_len hf hq
     rw [List.length_drop] at f1 f2
     have suff : s.drop (s.length - r1.length) = r1 := drop_rest hf hq
     have hz' : z1 = ((s.length - r1.length : Nat) : Int) := by omega
     subst hz'
     obtain ⟨g,z,g1,g2,g3⟩ := ih (p ++ q ++ [(3,0)]) (s.length - r1.length) 18960 (.inr rfl) (by omega) (by omega) (by omega) (by simp; omega)
     rw [suff] at g3
     refine ⟨g,z,by simp at g1; omega,g2,g3⟩
   ·rw [if_neg hc]
    have hc' : (s[k].toNat == 124) = false := beq_eq_false_iff_ne.2 hc
    refine ⟨p,k,by omega,?_,?_⟩
    ·unfold stS
     rcases hK with rfl | rfl <;> simp [F_spec_l2Or_L0,hlt,hlt',at1,hc']
    ·refine ⟨rfl,?_⟩
     rw [← dk,List.length_drop]; omega
set_option maxHeartbeats 4000000 in
theorem c_spec_l2Or {part : List UInt8 → PR} (hf : fine part) (s : List UInt8) (hl : s.length ≤ 1000) (n0 : Nat) (H : ∀ k,k ≤ s.length → s.length - k ≤ n0 → sp n_spec_l2And part s k) : ∀ k,k ≤ s.length → s.length - k ≤ n0 → sp n_spec_l2Or (rowP part 124 3) s k := by
 intro k hk hn
 obtain ⟨p,z1,q1,q2,q3⟩ := H k hk hn
 unfold sp
 rw [call_k lf n_spec_l2Or _ (F := F_spec_l2Or) rfl rfl]
 unfold rowP
 cases hp : part (s.drop k) with
 | none =>
  rw [hp] at q3
  simp only at q3
  subst q3
  have W : ex lf F_spec_l2Or_W0 (stS s 6673 p (-1)) = some (.exit 0,stS s 6673 p (-1)) := by
   rw [w_spec_l2Or_0]
   unfold stS
   simp [F_spec_l2Or_L0]
  unfold stS at W
  exact ⟨p,-1,q1,by simp [F_spec_l2Or,q2,W],rfl⟩
 | some v =>
  obtain ⟨p',r⟩ := v
  rw [hp] at q3
  simp only at q3
  obtain ⟨rfl,hz⟩ := q3
  obtain ⟨f1,f2,f3⟩ := fine_len hf hp
  rw [List.length_drop] at f1 f2
  have suff : s.drop (s.length - r.length) = r := drop_rest hf hp
  have hz' : z1 = ((s.length - r.length : Nat) : Int) := by omega
  subst hz'
  obtain ⟨g,z,g1,g2,g3⟩ := l_spec_l2Or hf s hl n0 H r.length p (s.length - r.length) 6673 (.inl rfl) (by omega) (by omega) (by omega) (by omega)
  rw [suff] at g3
  unfold stS at g2
  refine ⟨g,z,by omega,?_,g3⟩
  simp [F_spec_l2Or,q2,g2]

set_option maxHeartbeats 4000000 in
theorem c_spec_l2Atom (s : List UInt8) (hl : s.length ≤ 1000) : ∀ (n k : Nat),k ≤ s.length → s.length - k ≤ n → sp n_spec_l2Atom (pAtm n) s k := by
 intro n
 induction n with
 | zero =>
  intro k hk hn
  have : k = s.length := by omega
  subst this
  unfold sp
  rw [call_k lf n_spec_l2Atom _ (F := F_spec_l2Atom) rfl rfl]
  have z0 : ¬ ((s.length : Int) < 0) := by omega
  refine ⟨[],-1,by simp,?_,by simp [pAtm]⟩
  simp [F_spec_l2Atom,z0]
 | succ n ih =>
  intro k hk hn
  by_cases hks : k = s.length
  ·subst hks
   unfold sp
   rw [call_k lf n_spec_l2Atom _ (F := F_spec_l2Atom) rfl rfl]
   have z0 : ¬ ((s.length : Int) < 0) := by omega
   refine ⟨[],-1,by simp,?_,by simp [pAtm]⟩
   simp [F_spec_l2Atom,z0]
  ·have hlt : k < s.length := by omega
   have hlt' : (k : Int) < s.length := by omega
   have dk : s.drop k = s[k] :: s.drop (k + 1) := List.drop_eq_getElem_cons hlt
   have at1 : s[k]? = some s[k] := List.getElem?_eq_getElem hlt
   have w1 : wr ((k : Int) + 1) = ((k + 1 : Nat) : Int) := by rw [wr_id (by omega) (by omega)]; omega
   have N := ih (k + 1) (by omega) (by omega)
   have A := c_spec_l2And (pA_fine n) s hl n (fun k h1 h2 => ih k h1 h2)
   have O := c_spec_l2Or (rowP_fine (pA_fine n) 38 2) s hl n A (k + 1) (by omega) (by omega)
   have k0 : ¬ ((k : Int) < 0) := by omega
   have k1 : ¬ ((s.length : Int) ≤ k) := by omega
   have k2 : ¬ (s.length ≤ k) := by omega
   have hc256 : s[k].toNat < 256 := s[k].toNat_lt
   unfold sp at N O ⊢
   rw [dk]
   simp only [pAtm]
   rw [call_k lf n_spec_l2Atom _ (F := F_spec_l2Atom) rfl rfl]
   by_cases h4 : 97 ≤ s[k].toNat ∧ s[k].toNat ≤ 101
   ·have h1 : ¬ s[k].toNat = 33 := by omega
    have h2 : ¬ s[k].toNat = 40 := by omega
    rw [if_neg h1,if_neg h2,if_pos h4]
    have y1 : (wr8 ((s[k].toNat : Int) - 97) : Int) = (s[k].toNat : Int) - 97 := by unfold wr8; omega
    have g1 : 97 ≤ s[k].toNat := h4.1
    have g2 : s[k].toNat ≤ 101 := h4.2
    refine ⟨[(0,(s[k].toNat : Int) - 97)],((k + 1 : Nat) : Int),by simp,?_,rfl,by rw [List.length_drop]; omega⟩
    simp [F_spec_l2Atom,k0,k1,k2,hlt,hlt',at1,g1,g2,y1,w1,e2,-Int.natCast_add]
   ·by_cases h1 : s[k].toNat = 33
    ·rw [if_pos h1]
     obtain ⟨g,z,g1,g2,g3⟩ := N
     have lb1 : g.length ≤ bound := by unfold bound; omega
     have lb2 : g.length + 1 ≤ bound := by unfold bound; omega
     refine ⟨g ++ [(1,0)],z,by simp; omega,?_,?_⟩
     ·simp [F_spec_l2Atom,k0,k1,k2,hlt,hlt',at1,h1,w1,g2,lb1,lb2,if_pos (e2_wid g),e2,-Int.natCast_add]
     ·cases hq : pAtm n (s.drop (k + 1)) with
      | none => rw [hq] at g3; exact g3
      | some v => obtain ⟨p,r⟩ := v; rw [hq] at g3; exact ⟨by rw [g3.1],g3.2⟩
    ·rw [if_neg h1]
     have h1' : (s[k].toNat == 33) = false := beq_eq_false_iff_ne.2 h1
     by_cases h2 : s[k].toNat = 40
     ·rw [if_pos h2]
      obtain ⟨g,z,g1,g2,g3⟩ := O
      cases hq : rowP (rowP (pAtm n) 38 2) 124 3 (s.drop (k + 1)) with
      | none =>
       rw [hq] at g3
       simp only at g3
       subst g3
       refine ⟨[],-1,by simp,?_,rfl⟩
       simp [F_spec_l2Atom,k0,k1,k2,hlt,hlt',at1,h2,w1,g2,-Int.natCast_add]
      | some v =>
       obtain ⟨p,r⟩ := v
       rw [hq] at g3
       simp only at g3
       obtain ⟨rfl,hz⟩ := g3
       obtain ⟨f1,f2,f3⟩ := fine_len (rowP_fine (rowP_fine (pA_fine n) 38 2) 124 3) hq
       rw [List.length_drop] at f1 f2
       have suff : s.drop (s.length - r.length) = r := drop_rest (rowP_fine (rowP_fine (pA_fine n) 38 2) 124 3) hq
       have hz' : z = ((s.length - r.length : Nat) : Int) := by omega
       subst hz'
       generalize hj : s.length - r.length = j at *
       have j0 : ¬ ((j : Int) < 0) := by omega
       cases r with
       | nil =>
        have jl : j = s.length := by simp at hj; omega
        have z0 : ¬ ((s.length : Int) < 0) := by omega
        refine ⟨[],-1,by simp,?_,rfl⟩
        simp [F_spec_l2Atom,k0,k1,k2,hlt,hlt',at1,h2,w1,g2,j0,jl,z0,-Int.natCast_add]
       | cons d q =>
        simp at hj f1
        have jl : j < s.length := by omega
        have jl1 : ¬ ((s.length : Int) ≤ j) := by omega
        have jl2 : ¬ (s.length ≤ j) := by omega
        have atj : s[j] = d := by
         have := congrArg (fun l => l[0]?) suff
         simpa [jl] using this
        have jl' : (j : Int) < s.length := by omega
        have w2 : wr ((j : Int) + 1) = ((j + 1 : Nat) : Int) := by rw [wr_id (by omega) (by omega)]; omega
        by_cases h3 : d.toNat = 41
        ·simp only [if_pos h3]
         refine ⟨g,((j + 1 : Nat) : Int),by omega,?_,rfl,by omega⟩
         simp [F_spec_l2Atom,k0,k1,k2,hlt,hlt',at1,h2,w1,w2,g2,j0,jl,jl',jl1,jl2,atj,h3,-Int.natCast_add]
        ·simp only [if_neg h3]
         have h3' : (d.toNat != 41) = true := bne_iff_ne.2 h3
         refine ⟨[],-1,by simp,?_,rfl⟩
         simp [F_spec_l2Atom,k0,k1,k2,hlt,hlt',at1,h2,w1,g2,j0,jl,jl',jl1,jl2,atj,h3,h3',-Int.natCast_add]
     ·rw [if_neg h2,if_neg h4]
      have h2' : (s[k].toNat == 40) = false := beq_eq_false_iff_ne.2 h2
      refine ⟨[],-1,by simp,?_,rfl⟩
      by_cases g1 : 97 ≤ s[k].toNat
      ·have g2 : ¬ s[k].toNat ≤ 101 := by omega
       simp [F_spec_l2Atom,k0,k1,k2,hlt,hlt',at1,g1,g2,h1',h2']
      ·simp [F_spec_l2Atom,k0,k1,k2,hlt,hlt',at1,g1,h1',h2']
end
section
attribute [-simp] DV.cells
attribute [local simp] cells_st cells_sl cells_i cells_y cells_b cells_s cells_w
theorem rd_len (m : Int) (s : List UInt8) : ((rdOf m s).getD []).length ≤ 13 := by
 unfold rdOf
 split
 ·simp
 ·split
  ·split
   ·rename_i h
    obtain ⟨_,h2,_⟩ := tmOk_iff.1 h.1
    simp only [Option.getD_some]; omega
   ·simp
  ·simp
set_option maxHeartbeats 4000000 in
theorem c_spec_ReadTerm (m : Int) (s : List UInt8) (hl : s.length ≤ 1073741824) : call lf n_spec_ReadTerm [.i m,.s s] = some (.tup [.fr 2 (((rdOf m s).getD []).map e2),.b (rdOf m s).isSome],[]) := by
 rw [call_k lf n_spec_ReadTerm _ (F := F_spec_ReadTerm) rfl rfl]
 unfold rdOf
 by_cases h : 80 < s.length
 ·have h' : (80 : Int) < s.length := by omega
  simp [F_spec_ReadTerm,h,h']
 ·have h' : ¬ ((80 : Int) < s.length) := by omega
  have At := c_spec_l2Atom s (by omega) s.length
  have A := c_spec_l2And (pA_fine s.length) s (by omega) s.length (fun k h1 h2 => At k h1 h2)
  obtain ⟨g,z,g1,g2,g3⟩ := c_spec_l2Or (rowP_fine (pA_fine s.length) 38 2) s (by omega) s.length A 0 (by omega) (by omega)
  rw [List.drop_zero] at g3
  have E : rowP (rowP (pAtm s.length) 38 2) 124 3 s = pOr s.length s := rfl
  rw [E] at g3
  rw [if_neg h]
  have lb : g.length ≤ bound := by unfold bound; omega
  simp only [Int.natCast_zero] at g2
  cases hq : pOr s.length s with
  | none =>
   rw [hq] at g3
   simp only at g3
   subst g3
   have ne : ((-1 : Int) != s.length) = true := bne_iff_ne.2 (by omega)
   have ne' : ¬ (-1 : Int) = s.length := by omega
   simp [F_spec_ReadTerm,h,h',g2,ne,ne']
  | some v =>
   obtain ⟨p,r⟩ := v
   rw [hq] at g3
   simp only at g3
   obtain ⟨rfl,hz⟩ := g3
   cases r with
   | cons c r =>
    have ne : (z != s.length) = true := bne_iff_ne.2 (by rw [hz]; simp; omega)
    have ne' : ¬ z = s.length := by rw [hz]; simp; omega
    simp [F_spec_ReadTerm,h,h',g2,ne,ne']
   | nil =>
    simp at hz
    subst hz
    simp only
    have C := c_spec_TermOk m g (by omega)
    cases ht : tmOk m g with
    | false => rw [ht] at C; simp [F_spec_ReadTerm,h,h',g2,C,lb]
    | true =>
     rw [ht] at C
     obtain ⟨h5,h6,_⟩ := tmOk_iff.1 ht
     obtain ⟨x,h1,h2,h3,h4⟩ := tt_tree ht
     have W := c_spec_l2Text (m := m) (by omega) h1 (by rw [h2]; omega)
     rw [h2] at W
     rw [← h3] at W
     by_cases hx : ttOf m g = s
     ·simp [F_spec_ReadTerm,h,h',g2,C,W,lb,hx]
     ·have hx' : (ttOf m g == s) = false := beq_eq_false_iff_ne.2 hx
      simp [F_spec_ReadTerm,h,h',g2,C,W,lb,hx,hx']
theorem rowP_some {part : List UInt8 → PR} {sign : Nat} {kind : Int} {s r : List UInt8} {p : List T} (h : part s = some (p,r)) : rowP part sign kind s = rowL part sign kind r.length p r := by
 unfold rowP; rw [h]
def noS (a : Nat) (r : List UInt8) : Prop := ∀ c t,r = c :: t → c.toNat ≠ a
theorem rowL_end {part : List UInt8 → PR} {sign : Nat} {kind : Int} {n : Nat} {p : List T} {r : List UInt8} (h : noS sign r) : rowL part sign kind n p r = some (p,r) := by
 cases n with
 | zero => rfl
 | succ n =>
  cases r with
  | nil => rfl
  | cons c r => simp only [rowL]; rw [if_neg (h c r rfl)]
theorem rowL_step {part : List UInt8 → PR} {sign : Nat} {kind : Int} {n : Nat} {p q : List T} {c : UInt8} {r r' : List UInt8} (hc : c.toNat = sign) (hp : part r = some (q,r')) (hn : 1 ≤ n) : rowL part sign kind n p (c :: r) = rowL part sign kind (n - 1) (p ++ q ++ [(kind,0)]) r' := by
 obtain ⟨n,rfl⟩ : ∃ k,n = k + 1 := ⟨n - 1,by omega⟩
 simp only [rowL]
 rw [if_pos hc,hp]; rfl
theorem brk_of (l : Int) (x : Tm) : brk l (txt x,lastK x) = if lastK x ≥ l then 40 :: (txt x ++ [41]) else txt x := by
 unfold brk; split <;> simp
def rdS (x : Tm) : Prop := ∀ f,(txt x).length ≤ f →
 (lastK x ≤ 1 → ∀ r,pAtm f (txt x ++ r) = some (flt x,r)) ∧
 (lastK x ≤ 2 → ∀ r,∃ n,r.length ≤ n ∧ rowP (pAtm f) 38 2 (txt x ++ r) = rowL (pAtm f) 38 2 n (flt x) r) ∧
 ∀ r,noS 38 r → ∃ n,r.length ≤ n ∧ rowP (rowP (pAtm f) 38 2) 124 3 (txt x ++ r) = rowL (rowP (pAtm f) 38 2) 124 3 n (flt x) r
theorem rd_brk {x : Tm} (h : rdS x) {f : Nat} (hf : (txt x).length + 2 ≤ f) (r : List UInt8) : pAtm f (40 :: (txt x ++ 41 :: r)) = some (flt x,r) := by
 obtain ⟨f,rfl⟩ : ∃ k,f = k + 1 := ⟨f - 1,by omega⟩
 obtain ⟨_,_,h3⟩ := h f (by omega)
 obtain ⟨n,_,hn⟩ := h3 (41 :: r) (fun c t e => by injection e with e _; subst e; decide)
 rw [rowL_end (fun c t e => by injection e with e _; subst e; decide)] at hn
 have c1 : ¬ (40 : UInt8).toNat = 33 := by decide
 have c2 : (40 : UInt8).toNat = 40 := by decide
 have c3 : (41 : UInt8).toNat = 41 := by decide
 simp only [pAtm]
 rw [if_neg c1,if_pos c2,hn]
 simp only
 rw [if_pos c3]
theorem rd_held {x : Tm} (h : rdS x) {f : Nat} (hf : (brk 2 (txt x,lastK x)).length ≤ f) (r : List UInt8) : pAtm f (brk 2 (txt x,lastK x) ++ r) = some (flt x,r) := by
 rw [brk_of] at hf ⊢
 by_cases hk : lastK x ≥ 2
 ·rw [if_pos hk] at hf ⊢
  simp at hf
  have := rd_brk h (f := f) (by omega) r
  simpa using this
 ·rw [if_neg hk] at hf ⊢
  exact (h f hf).1 (by omega) r
theorem rd_all {m : Int} (hm : m ≤ 5) : ∀ x : Tm,tb m x → rdS x
 | .tst a,hb => by
  intro f hf
  have ha : (a : Int) < m := hb
  have A : ∀ r,pAtm f (txt (.tst a) ++ r) = some (flt (.tst a),r) := by
   intro r
   simp only [txt,List.length_singleton] at hf
   obtain ⟨f,rfl⟩ : ∃ k,f = k + 1 := ⟨f - 1,by omega⟩
   have c5 : a = 0 ∨ a = 1 ∨ a = 2 ∨ a = 3 ∨ a = 4 := by omega
   rcases c5 with rfl | rfl | rfl | rfl | rfl <;> rfl
  have R : ∀ r,∃ n,r.length ≤ n ∧ rowP (pAtm f) 38 2 (txt (.tst a) ++ r) = rowL (pAtm f) 38 2 n (flt (.tst a)) r := fun r => ⟨r.length,Nat.le_refl _,rowP_some (A r)⟩
  refine ⟨fun _ => A,fun _ => R,fun r hr => ⟨r.length,Nat.le_refl _,?_⟩⟩
  obtain ⟨n,_,e⟩ := R r
  rw [rowL_end hr] at e
  exact rowP_some e
 | .neg x,hb => by
  have ih := rd_all hm x hb
  intro f hf
  have A : ∀ r,pAtm f (txt (.neg x) ++ r) = some (flt (.neg x),r) := by
   intro r
   simp only [txt,List.length_append,List.length_singleton] at hf
   obtain ⟨f,rfl⟩ : ∃ k,f = k + 1 := ⟨f - 1,by omega⟩
   have H := rd_held ih (f := f) (by omega) r
   have c1 : (33 : UInt8).toNat = 33 := by decide
   simp only [txt,List.singleton_append,List.cons_append,List.nil_append,pAtm]
   rw [if_pos c1,H]
   rfl
  have R : ∀ r,∃ n,r.length ≤ n ∧ rowP (pAtm f) 38 2 (txt (.neg x) ++ r) = rowL (pAtm f) 38 2 n (flt (.neg x)) r := fun r => ⟨r.length,Nat.le_refl _,rowP_some (A r)⟩
  refine ⟨fun _ => A,fun _ => R,fun r hr => ⟨r.length,Nat.le_refl _,?_⟩⟩
  obtain ⟨n,_,e⟩ := R r
  rw [rowL_end hr] at e
  exact rowP_some e
 | .and x y,hb => by
  have ix := rd_all hm x hb.1
  have iy := rd_all hm y hb.2
  intro f hf
  simp only [txt,List.length_append,List.length_singleton] at hf
  have c1 : (38 : UInt8).toNat = 38 := by decide
  have R : ∀ r,∃ n,r.length ≤ n ∧ rowP (pAtm f) 38 2 (txt (.and x y) ++ r) = rowL (pAtm f) 38 2 n (flt (.and x y)) r := by
   intro r
   have H := rd_held iy (f := f) (by omega) r
   have first : ∃ n,(38 :: (brk 2 (txt y,lastK y) ++ r)).length ≤ n ∧ rowP (pAtm f) 38 2 (brk 3 (txt x,lastK x) ++ 38 :: (brk 2 (txt y,lastK y) ++ r)) = rowL (pAtm f) 38 2 n (flt x) (38 :: (brk 2 (txt y,lastK y) ++ r)) := by
    rw [brk_of 3 x] at hf ⊢
    by_cases hk : lastK x ≥ 3
    ·rw [if_pos hk] at hf ⊢
     simp at hf
     have B := rd_brk ix (f := f) (by omega) (38 :: (brk 2 (txt y,lastK y) ++ r))
     refine ⟨_,Nat.le_refl _,?_⟩
     rw [show (40 :: (txt x ++ [41]) ++ 38 :: (brk 2 (txt y,lastK y) ++ r)) = 40 :: (txt x ++ 41 :: 38 :: (brk 2 (txt y,lastK y) ++ r)) by simp]
     exact rowP_some B
    ·rw [if_neg hk] at hf ⊢
     exact (ix f (by omega)).2.1 (by omega) _
   obtain ⟨n,n1,n2⟩ := first
   refine ⟨n - 1,by simp at n1; omega,?_⟩
   rw [show txt (.and x y) ++ r = brk 3 (txt x,lastK x) ++ 38 :: (brk 2 (txt y,lastK y) ++ r) by simp [txt],n2,rowL_step c1 H (by simp at n1; omega)]
   rfl
  refine ⟨fun h => by simp [lastK] at h,fun _ => R,fun r hr => ⟨r.length,Nat.le_refl _,?_⟩⟩
  obtain ⟨n,_,e⟩ := R r
  rw [rowL_end hr] at e
  exact rowP_some e
 | .or x y,hb => by
  have ix := rd_all hm x hb.1
  have iy := rd_all hm y hb.2
  intro f hf
  simp only [txt,List.length_append,List.length_singleton] at hf
  have c1 : (124 : UInt8).toNat = 124 := by decide
  refine ⟨fun h => by simp [lastK] at h,fun h => by simp [lastK] at h,fun r hr => ?_⟩
  have H : rowP (pAtm f) 38 2 (brk 3 (txt y,lastK y) ++ r) = some (flt y,r) := by
   rw [brk_of] at hf ⊢
   by_cases hk : lastK y ≥ 3
   ·rw [if_pos hk] at hf ⊢
    simp at hf
    have B := rd_brk iy (f := f) (by omega) r
    rw [show (40 :: (txt y ++ [41]) ++ r) = 40 :: (txt y ++ 41 :: r) by simp,rowP_some B]
    exact rowL_end hr
   ·rw [if_neg hk] at hf ⊢
    obtain ⟨n,_,e⟩ := (iy f (by omega)).2.1 (by omega) r
    rw [e]
    exact rowL_end hr
  obtain ⟨n,n1,n2⟩ := (ix f (by omega)).2.2 (124 :: (brk 3 (txt y,lastK y) ++ r)) (fun c t e => by injection e with e _; subst e; decide)
  refine ⟨n - 1,by simp at n1; omega,?_⟩
  rw [show txt (.or x y) ++ r = txt x ++ 124 :: (brk 3 (txt y,lastK y) ++ r) by simp [txt],n2,rowL_step c1 H (by simp at n1; omega)]
  rfl
theorem rd_txt {m : Int} (hm : m ≤ 5) {x : Tm} (hb : tb m x) {f : Nat} (hf : (txt x).length ≤ f) : pOr f (txt x) = some (flt x,[]) := by
 obtain ⟨n,_,e⟩ := (rd_all hm x hb f hf).2.2 [] (fun c t h => by cases h)
 rw [rowL_end (fun c t h => by cases h),List.append_nil] at e
 exact e
theorem rd_self {m : Int} {t : List T} (h : tmOk m t = true) : rdOf m (ttOf m t) = some t := by
 obtain ⟨h5,h6,_⟩ := tmOk_iff.1 h
 obtain ⟨x,h1,h2,h3,h4⟩ := tt_tree h
 have tl := txt_len x
 rw [h2] at tl
 unfold rdOf
 rw [h3,if_neg (by omega),rd_txt (m := m) (by omega) h1 (Nat.le_refl _)]
 simp only
 rw [h2,if_pos ⟨h,h3⟩]
theorem rd_some {m : Int} {s : List UInt8} {t : List T} (h : rdOf m s = some t) : tmOk m t = true ∧ ttOf m t = s := by
 unfold rdOf at h
 split at h
 ·cases h
 ·split at h
  ·split at h
   ·rename_i hc
    injection h with h
    subst h
    exact hc
   ·cases h
  ·cases h
theorem rd_refused {m : Int} {s : List UInt8} {t : List T} (h : rdOf m s = some t) : rdOf m ([40] ++ s ++ [41]) = none := by
 obtain ⟨h0,h1⟩ := rd_some h
 obtain ⟨h5,h6,_⟩ := tmOk_iff.1 h0
 obtain ⟨x,k1,k2,k3,k4⟩ := tt_tree h0
 rw [h1] at k3
 unfold rdOf
 by_cases hl : 80 < ([40] ++ s ++ [41]).length
 ·rw [if_pos hl]
 ·rw [if_neg hl]
  have e : [40] ++ s ++ [41] = 40 :: (txt x ++ 41 :: []) := by rw [k3]; simp
  have B := rd_brk (rd_all (m := m) (by omega) x k1) (f := ([40] ++ s ++ [41]).length) (by rw [e]; simp) []
  have O : pOr ([40] ++ s ++ [41]).length ([40] ++ s ++ [41]) = some (flt x,[]) := by
   have A : pAnd ([40] ++ s ++ [41]).length ([40] ++ s ++ [41]) = some (flt x,[]) := by
    conv => lhs; rw [e]
    rw [e] at B
    exact rowP_some B
   exact rowP_some A
  rw [O]
  simp only
  rw [if_neg]
  rintro ⟨_,hc⟩
  rw [k2,h1] at hc
  have := congrArg List.length hc
  simp at this
  omega
end
section
attribute [-simp] DV.cells
attribute [local simp] cells_st cells_sl cells_i cells_y cells_b cells_s
set_option maxHeartbeats 4000000 in
theorem c_l20Term {bs : List Nat} (hb : ∀ y ∈ bs,y < 256) (hl : bs.length ≤ 2000) {p m n : Int} (h0 : 0 ≤ p) (h1 : p < 700000) (hm1 : 1 ≤ m) (hm5 : m ≤ 5) (hn : 1 ≤ n) (hn2 : n ≤ 1000000) :
  ∃ (t : List T) (p' : Int),t.length ≤ 12 ∧ p ≤ p' ∧ p' ≤ p + 60 ∧ call lf n_spec_l20Term [.ref (.st [.sl 0 (bs.map .y),.i p]),.i m,.i n] = some (.fr 2 (t.map e2),[.st [.sl 0 (bs.map .y),.i p']]) := by
 have mx : max m 1 = m := by omega
 have mn : min m 5 = m := by omega
 have k0 := c_pick hb hl h0 (by omega : p < 1000000) (by omega : (1 : Int) ≤ 2)
 by_cases ho : pk bs p 2 = 0
 ·rw [ho] at k0
  obtain ⟨j,rfl⟩ : ∃ j : Nat,m = j := ⟨m.toNat,by omega⟩
  obtain ⟨qs,q1,q2,q3,q4⟩ := l_l20Term0 hb hl j n hm5 j 0 (p + 1) [] (by omega) (by omega) (by omega) (by omega) (by simp) (by simp)
  have QNE := q3 (.inr ⟨rfl,by omega⟩)
  simp at q4
  have k1 := c_pick hb hl (by omega : 0 ≤ p + 1 + (j : Int)) (by omega : p + 1 + (j : Int) < 1000000) (by omega : (1 : Int) ≤ 5)
  have a1 := pk_bound hb (by omega : 0 ≤ p + 1 + (j : Int)) (by omega : p + 1 + (j : Int) ≤ 1000000) (by omega : (1 : Int) ≤ 5)
  have w1 : wr (1 + pk bs (p + 1 + (j : Int)) 5) = 1 + pk bs (p + 1 + (j : Int)) 5 := wr_id (by omega) (by omega)
  have u1 := l_l20Term1t (bs := bs) j n (1 + pk bs (p + 1 + (j : Int)) 5) (p + 1 + j + 1) qs
  have Q5 : qs.length ≤ 5 := by omega
  generalize hR2 : p + 1 + (j : Int) + 1 = R2 at *
  obtain ⟨t,l',r3,b1,b2,b3,b4,b5⟩ := l_parts hb hl n R2 qs QNE q1 Q5 (by omega) (by omega)
  obtain ⟨x,xs,rfl⟩ := atI_e0 b1
  simp [tailS,row,e2] at b5
  simp only [List.length_cons] at b2
  have k3 := c_odd hb hl (by omega : 0 ≤ r3) (by omega : r3 < 1000000) hn hn2
  have lb : xs.length + 1 + 1 ≤ bound := by unfold bound; omega
  cases ho : (pk bs r3 n == n - 1) with
  | false =>
   rw [ho] at k3
   refine ⟨x :: xs,r3 + 1,by simp only [List.length_cons]; omega,by omega,by omega,?_⟩
   rw [call_k lf n_spec_l20Term _ (F := F_spec_l20Term) rfl rfl]
   simp [F_spec_l20Term,mx,mn,k0,q4,k1,w1,u1,hR2,k3,b5,row,e2]
  | true =>
   rw [ho] at k3
   have k4 := c_pick hb hl (by omega : 0 ≤ r3 + 1) (by omega : r3 + 1 < 1000000) (by omega : (1 : Int) ≤ 3)
   by_cases z0 : pk bs (r3 + 1) 3 = 0
   ·rw [z0] at k4
    refine ⟨[],r3 + 1 + 1,by simp,by omega,by omega,?_⟩
    rw [call_k lf n_spec_l20Term _ (F := F_spec_l20Term) rfl rfl]
    simp [F_spec_l20Term,mx,mn,k0,q4,k1,w1,u1,hR2,k3,k4,b5,row,e2]
   ·have z0' : (pk bs (r3 + 1) 3 == 0) = false := by simp [z0]
    by_cases z1 : pk bs (r3 + 1) 3 = 1
    ·rw [z1] at k4
     refine ⟨x :: xs ++ [(2,0)],r3 + 1 + 1,by simp; omega,by omega,by omega,?_⟩
     rw [call_k lf n_spec_l20Term _ (F := F_spec_l20Term) rfl rfl]
     simp [F_spec_l20Term,mx,mn,k0,q4,k1,w1,u1,hR2,k3,k4,b5,lb,row,e2]
    ·have z1' : (pk bs (r3 + 1) 3 == 1) = false := by simp [z1]
     refine ⟨(0,5) :: xs,r3 + 1 + 1,by simp only [List.length_cons]; omega,by omega,by omega,?_⟩
     rw [call_k lf n_spec_l20Term _ (F := F_spec_l20Term) rfl rfl]
     simp [F_spec_l20Term,mx,mn,k0,q4,k1,w1,u1,hR2,k3,k4,z0,z0',z1,z1',b5,row,e2]
 ·have k0' : (pk bs p 2 == 0) = false := by simp [ho]
  have k1 := c_pick hb hl (by omega : 0 ≤ p + 1) (by omega : p + 1 < 1000000) (by omega : (1 : Int) ≤ 5)
  have a1 := pk_bound hb (by omega : 0 ≤ p + 1) (by omega : p + 1 ≤ 1000000) (by omega : (1 : Int) ≤ 5)
  obtain ⟨j,hj⟩ : ∃ j : Nat,1 + pk bs (p + 1) 5 = j := ⟨(1 + pk bs (p + 1) 5).toNat,by omega⟩
  have w1 : wr (j : Int) = j := wr_id (by omega) (by omega)
  have q0 := l_l20Term0f (bs := bs) m n 0 (p + 1) (by omega)
  obtain ⟨qs,q1,q2,q4⟩ := l_l20Term1 hb hl m n hm1 hm5 j (p + 1 + 1) [] (by omega) (by omega) (by simp) (by simp; omega)
  simp at q4 q2
  have QNE : qs ≠ [] := by intro h; rw [h] at q2; simp at q2; omega
  have Q5 : qs.length ≤ 5 := by omega
  generalize hR2 : p + 1 + 1 + (j : Int) = R2 at *
  obtain ⟨t,l',r3,b1,b2,b3,b4,b5⟩ := l_parts hb hl n R2 qs QNE q1 Q5 (by omega) (by omega)
  obtain ⟨x,xs,rfl⟩ := atI_e0 b1
  simp [tailS,row,e2] at b5
  simp only [List.length_cons] at b2
  have k3 := c_odd hb hl (by omega : 0 ≤ r3) (by omega : r3 < 1000000) hn hn2
  have lb : xs.length + 1 + 1 ≤ bound := by unfold bound; omega
  cases ho : (pk bs r3 n == n - 1) with
  | false =>
   rw [ho] at k3
   refine ⟨x :: xs,r3 + 1,by simp only [List.length_cons]; omega,by omega,by omega,?_⟩
   rw [call_k lf n_spec_l20Term _ (F := F_spec_l20Term) rfl rfl]
   simp [F_spec_l20Term,mx,mn,k0,ho,k0',q0,q4,k1,hj,w1,k3,b5,row,e2]
  | true =>
   rw [ho] at k3
   have k4 := c_pick hb hl (by omega : 0 ≤ r3 + 1) (by omega : r3 + 1 < 1000000) (by omega : (1 : Int) ≤ 3)
   by_cases z0 : pk bs (r3 + 1) 3 = 0
   ·rw [z0] at k4
    refine ⟨[],r3 + 1 + 1,by simp,by omega,by omega,?_⟩
    rw [call_k lf n_spec_l20Term _ (F := F_spec_l20Term) rfl rfl]
    simp [F_spec_l20Term,mx,mn,k0,ho,k0',q0,q4,k1,hj,w1,k3,k4,b5,row,e2]
   ·have z0' : (pk bs (r3 + 1) 3 == 0) = false := by simp [z0]
    by_cases z1 : pk bs (r3 + 1) 3 = 1
    ·rw [z1] at k4
     refine ⟨x :: xs ++ [(2,0)],r3 + 1 + 1,by simp; omega,by omega,by omega,?_⟩
     rw [call_k lf n_spec_l20Term _ (F := F_spec_l20Term) rfl rfl]
     simp [F_spec_l20Term,mx,mn,k0,ho,k0',q0,q4,k1,hj,w1,k3,k4,b5,lb,row,e2]
    ·have z1' : (pk bs (r3 + 1) 3 == 1) = false := by simp [z1]
     refine ⟨(0,5) :: xs,r3 + 1 + 1,by simp only [List.length_cons]; omega,by omega,by omega,?_⟩
     rw [call_k lf n_spec_l20Term _ (F := F_spec_l20Term) rfl rfl]
     simp [F_spec_l20Term,mx,mn,k0,ho,k0',q0,q4,k1,hj,w1,k3,k4,z0,z0',z1,z1',b5,row,e2]
end
section
theorem c_alive : call lf n_laws_alive [] = some (.b true,[]) := by
 rw [call_k lf n_laws_alive _ (F := F_laws_alive) rfl rfl]
 have a := c_impl_TestsOk [(1,1)] (by simp)
 have b := c_impl_TestsOk [(0,0)] (by simp)
 have a1 : tsOk [(1,1)] = true := by decide
 have b1 : tsOk [(0,0)] = false := by decide
 rw [a1] at a
 rw [b1] at b
 simp [e2] at a b
 simp [F_laws_alive,a,b]
def eqAt (aS bs : List T) (i : Nat) : Bool := aS[i]? == bs[i]?
end
section
attribute [-simp] DV.cells
attribute [local simp] cells_st cells_sl cells_i cells_y cells_b cells_s
theorem quo59 {x : Int} (h0 : 0 ≤ x) (h1 : x < 60) : x.tdiv 59 = 0 ∨ x.tdiv 59 = 1 := by
 rw [Int.tdiv_eq_ediv_of_nonneg h0]; omega
theorem c_l20Asked {bs : List Nat} (hb : ∀ y ∈ bs,y < 256) (hl : bs.length ≤ 2000) {p n : Int} (h0 : 0 ≤ p) (h1 : p < 600000) (hn : 1 ≤ n) (hn2 : n ≤ 1000000) :
  ∃ (a : Int) (t : List T) (p' : Int),1 ≤ a ∧ a ≤ 10 ∧ t.length ≤ 12 ∧ p ≤ p' ∧ p' ≤ p + 70 ∧ call lf n_spec_l20Asked [.ref (.st [.sl 0 (bs.map .y),.i p]),.i n] = some (.tup [.i a,.fr 2 (t.map e2)],[.st [.sl 0 (bs.map .y),.i p']]) := by
 have k1 := c_pick hb hl h0 (by omega : p < 1000000) (by omega : (1 : Int) ≤ 5)
 have a1 := pk_bound hb h0 (by omega : p ≤ 1000000) (by omega : (1 : Int) ≤ 5)
 have k2 := c_pick hb hl (by omega : 0 ≤ p + 1) (by omega : p + 1 < 1000000) (by omega : (1 : Int) ≤ 60)
 have a2 := pk_bound hb (by omega : 0 ≤ p + 1) (by omega : p + 1 ≤ 1000000) (by omega : (1 : Int) ≤ 60)
 generalize pk bs p 5 = x1 at *
 generalize pk bs (p + 1) 60 = x2 at *
 have w1 : wr (1 + x1) = 1 + x1 := wr_id (by omega) (by omega)
 obtain ⟨t,p',t1,t2,t3,t4⟩ := c_l20Term hb hl (by omega : 0 ≤ p + 1 + 1) (by omega) (by omega : 1 ≤ 1 + x1) (by omega : 1 + x1 ≤ 5) hn hn2
 rcases quo59 a2.1 a2.2 with q | q
 ·have w2 : wr 0 = 0 := wr_id (by omega) (by omega)
  refine ⟨1 + x1,t,p',by omega,by omega,t1,by omega,by omega,?_⟩
  rw [call_k lf n_spec_l20Asked _ (F := F_spec_l20Asked) rfl rfl]
  simp [F_spec_l20Asked,k1,k2,w1,q,w2,t4]
 ·have w2 : wr 1 = 1 := wr_id (by omega) (by omega)
  have w3 : wr 5 = 5 := wr_id (by omega) (by omega)
  have w4 : wr (1 + x1 + 5) = 1 + x1 + 5 := wr_id (by omega) (by omega)
  refine ⟨1 + x1 + 5,t,p',by omega,by omega,t1,by omega,by omega,?_⟩
  rw [call_k lf n_spec_l20Asked _ (F := F_spec_l20Asked) rfl rfl]
  simp [F_spec_l20Asked,k1,k2,w1,q,w2,w3,w4,t4]
end
section
attribute [-simp] DV.cells
attribute [local simp] cells_st cells_sl cells_i cells_y cells_b cells_s
theorem c_sameMarks (aS bs : List T) (ha : aS.length ≤ 1000) : call lf n_laws_sameMarks [.sl 0 (aS.map e2),.sl 0 (bs.map e2)] = some (.b (aS == bs),[]) := by
 rw [call_k lf n_laws_sameMarks _ (F := F_laws_sameMarks) rfl rfl]
 by_cases hl : (aS.length : Int) = bs.length
 ·have L : ex lf F_laws_sameMarks_W0 ⟨[(0,.sl 0 (aS.map e2)),(1,.sl 0 (bs.map e2)),(5,.i 0)],[]⟩ = if allTo (eqAt aS bs) aS.length = true then some (.exit 0,⟨[(0,.sl 0 (aS.map e2)),(1,.sl 0 (bs.map e2)),(5,.i aS.length)],[]⟩) else some (.ret,⟨[(4,.b false)],[]⟩) := by
   refine loop_all aS.length (fun i => ⟨[(0,.sl 0 (aS.map e2)),(1,.sl 0 (bs.map e2)),(5,.i i)],[]⟩) _ (fun i hi => ?_) ?_ (by simp)
   ·obtain ⟨t,q1,q2,q3,q4⟩ := at_e2 hi
    obtain ⟨u,r1,r2,r3,r4⟩ := at_e2 (ts := bs) (i := i) (by omega)
    have w1 : wr ((i : Int) + 1) = (i : Int) + 1 := wr_id (by omega) (by omega)
    by_cases x1 : t.1 = u.1
    ·by_cases x2 : t.2 = u.2
     ·have e : eqAt aS bs i = true := by rw [eqAt,q1,r1]; simp [Prod.ext x1 x2]
      simp [F_laws_sameMarks_L0,hi,q3,r3,w1,eqI,x1,x2,e]
     ·have e : eqAt aS bs i = false := by
       rw [eqAt,q1,r1,beq_eq_false_iff_ne]; intro h; injection h with h; exact x2 (by rw [h])
      simp [F_laws_sameMarks_L0,hi,q3,r3,w1,eqI,x1,x2,e]
    ·have e : eqAt aS bs i = false := by
      rw [eqAt,q1,r1,beq_eq_false_iff_ne]; intro h; injection h with h; exact x1 (by rw [h])
     simp [F_laws_sameMarks_L0,hi,q3,r3,w1,eqI,x1,e]
   ·simp [F_laws_sameMarks_L0]
  have e : allTo (eqAt aS bs) aS.length = (aS == bs) := by
   rw [Bool.eq_iff_iff,allTo_iff,beq_iff_eq]
   constructor
   ·intro h
    apply List.ext_getElem?
    intro i
    by_cases hi : i < aS.length
    ·have := h i hi
     unfold eqAt at this
     exact beq_iff_eq.1 this
    ·rw [List.getElem?_eq_none (by omega),List.getElem?_eq_none (by omega)]
   ·rintro rfl i _; simp [eqAt]
  rw [e] at L
  have hl' : aS.length = bs.length := by omega
  cases h : (aS == bs) <;> simp [F_laws_sameMarks,L,hl',h]
 ·have e : (aS == bs) = false := by rw [beq_eq_false_iff_ne]; rintro rfl; exact hl rfl
  have y : ((aS.length : Int) != bs.length) = true := bne_iff_ne.2 hl
  simp [F_laws_sameMarks,y,e]
end
section
attribute [-simp] DV.cells
attribute [local simp] cells_st cells_sl cells_i cells_y cells_b cells_s
theorem c_DrawTermText {bs : List Nat} (hb : ∀ y ∈ bs,y < 256) (hl : bs.length ≤ 1048576) :
  ∃ (a : Int) (t : List T),1 ≤ a ∧ a ≤ 10 ∧ t.length ≤ 12 ∧ call lf n_spec_DrawTermText [.sl 0 (bs.map .y)] = some (.tup [.i a,.fr 2 (t.map e2)],[]) := by
 obtain ⟨c1,c2⟩ := take_b hb
 have o := c_open hl
 generalize bs.take 2000 = cs at *
 obtain ⟨a,t,p',a1,a2,t1,_,_,h⟩ := c_l20Asked c1 c2 (by omega : (0 : Int) ≤ 0) (by omega) (by omega : (1 : Int) ≤ 9) (by omega)
 refine ⟨a,t,a1,a2,t1,?_⟩
 rw [call_k lf n_spec_DrawTermText _ (F := F_spec_DrawTermText) rfl rfl]
 simp [F_spec_DrawTermText,o,h]
theorem txt_ne : ∀ x : Tm,txt x ≠ []
 | .tst a => by simp [txt]
 | .neg x => by simp [txt]
 | .and x y => by simp [txt]
 | .or x y => by simp [txt]
set_option maxHeartbeats 4000000 in
theorem law_FnTermText (x : List Nat) (_ : x.length ≤ Go.maxLen) (hb : ∀ y ∈ x,y < 256) : call lf n_laws_FnTermText [bys x] = some (.b true,[]) := by
 show call lf n_laws_FnTermText [.sl 0 (x.map .y)] = _
 rw [call_k lf n_laws_FnTermText _ (F := F_laws_FnTermText) rfl rfl]
 by_cases hl : 1048576 < (x.length : Int)
 ·simp (config := { maxSteps := 2000000 }) [F_laws_FnTermText,hl]
 ·obtain ⟨m,t,a1,a2,t1,d⟩ := c_DrawTermText hb (by omega)
  have V1 := c_impl_TermText m t (by omega)
  have V2 := c_spec_TermText m t (by omega)
  have C1 := c_impl_TermOk m t (by omega)
  have lb1 : t.length ≤ bound := by unfold bound; omega
  cases hk : tmOk m t with
  | false =>
   have e : ttOf m t = [] := by unfold ttOf; rw [hk]; rfl
   rw [e] at V1 V2
   rw [hk] at C1
   simp (config := { maxSteps := 2000000 }) [F_laws_FnTermText,hl,d,V1,V2,C1,lb1,c_alive]
  | true =>
   obtain ⟨y,h1,h2,h3,h4⟩ := tt_tree hk
   have ne : ttOf m t ≠ [] := by rw [h3]; exact txt_ne y
   have ne' : (ttOf m t == []) = false := beq_eq_false_iff_ne.2 ne
   have tl : (ttOf m t).length ≤ 60 := by rw [h3]; have := txt_len y; rw [h2] at this; omega
   have R := c_impl_ReadTerm m (ttOf m t) (by omega)
   rw [rd_self hk] at R
   simp only [Option.getD_some,Option.isSome_some] at R
   have S := c_sameMarks t t (by omega)
   rw [show (t == t) = true from beq_self_eq_true _] at S
   generalize ttOf m t = s at *
   simp (config := { maxSteps := 2000000 }) [F_laws_FnTermText,hl,d,V1,V2,R,S,ne,ne',lb1]
end
section
attribute [-simp] DV.cells
attribute [local simp] cells_st cells_sl cells_i cells_y cells_b cells_s cells_w
theorem c_odd0 {bs : List Nat} (p : Int) : call lf n_spec_l20Rd_odd [.ref (.st [.sl 0 (bs.map .y),.i p]),.i 0] = some (.b false,[.st [.sl 0 (bs.map .y),.i p]]) := by
 rw [call_k lf n_spec_l20Rd_odd _ (F := F_spec_l20Rd_odd) rfl rfl]
 simp [F_spec_l20Rd_odd]
set_option maxHeartbeats 4000000 in
theorem c_l20Term0 {bs : List Nat} (hb : ∀ y ∈ bs,y < 256) (hl : bs.length ≤ 2000) {p m0 m : Int} (mx : max m0 1 = m) (h0 : 0 ≤ p) (h1 : p < 700000) (hm1 : 1 ≤ m) (hm5 : m ≤ 5) :
  ∃ (t : List T) (p' : Int),t.length ≤ 12 ∧ p ≤ p' ∧ p' ≤ p + 60 ∧ call lf n_spec_l20Term [.ref (.st [.sl 0 (bs.map .y),.i p]),.i m0,.i 0] = some (.fr 2 (t.map e2),[.st [.sl 0 (bs.map .y),.i p']]) := by
 have mn : min m 5 = m := by omega
 have k0 := c_pick hb hl h0 (by omega : p < 1000000) (by omega : (1 : Int) ≤ 2)
 by_cases ho : pk bs p 2 = 0
 ·rw [ho] at k0
  obtain ⟨j,rfl⟩ : ∃ j : Nat,m = j := ⟨m.toNat,by omega⟩
  obtain ⟨qs,q1,q2,q3,q4⟩ := l_l20Term0 hb hl j 0 hm5 j 0 (p + 1) [] (by omega) (by omega) (by omega) (by omega) (by simp) (by simp)
  have QNE := q3 (.inr ⟨rfl,by omega⟩)
  simp at q4
  have k1 := c_pick hb hl (by omega : 0 ≤ p + 1 + (j : Int)) (by omega : p + 1 + (j : Int) < 1000000) (by omega : (1 : Int) ≤ 5)
  have a1 := pk_bound hb (by omega : 0 ≤ p + 1 + (j : Int)) (by omega : p + 1 + (j : Int) ≤ 1000000) (by omega : (1 : Int) ≤ 5)
  have w1 : wr (1 + pk bs (p + 1 + (j : Int)) 5) = 1 + pk bs (p + 1 + (j : Int)) 5 := wr_id (by omega) (by omega)
  have u1 := l_l20Term1t (bs := bs) j 0 (1 + pk bs (p + 1 + (j : Int)) 5) (p + 1 + j + 1) qs
  have Q5 : qs.length ≤ 5 := by omega
  generalize hR2 : p + 1 + (j : Int) + 1 = R2 at *
  obtain ⟨t,l',r3,b1,b2,b3,b4,b5⟩ := l_parts hb hl 0 R2 qs QNE q1 Q5 (by omega) (by omega)
  obtain ⟨x,xs,rfl⟩ := atI_e0 b1
  simp [tailS,row,e2] at b5
  simp only [List.length_cons] at b2
  have k3 := c_odd0 (bs := bs) r3
  have lb : xs.length + 1 + 1 ≤ bound := by unfold bound; omega
  refine ⟨x :: xs,r3,by simp only [List.length_cons]; omega,by omega,by omega,?_⟩
  rw [call_k lf n_spec_l20Term _ (F := F_spec_l20Term) rfl rfl]
  simp [F_spec_l20Term,mx,mn,k0,q4,k1,w1,u1,hR2,k3,b5,row,e2]
 ·have k0' : (pk bs p 2 == 0) = false := by simp [ho]
  have k1 := c_pick hb hl (by omega : 0 ≤ p + 1) (by omega : p + 1 < 1000000) (by omega : (1 : Int) ≤ 5)
  have a1 := pk_bound hb (by omega : 0 ≤ p + 1) (by omega : p + 1 ≤ 1000000) (by omega : (1 : Int) ≤ 5)
  obtain ⟨j,hj⟩ : ∃ j : Nat,1 + pk bs (p + 1) 5 = j := ⟨(1 + pk bs (p + 1) 5).toNat,by omega⟩
  have w1 : wr (j : Int) = j := wr_id (by omega) (by omega)
  have q0 := l_l20Term0f (bs := bs) m 0 0 (p + 1) (by omega)
  obtain ⟨qs,q1,q2,q4⟩ := l_l20Term1 hb hl m 0 hm1 hm5 j (p + 1 + 1) [] (by omega) (by omega) (by simp) (by simp; omega)
  simp at q4 q2
  have QNE : qs ≠ [] := by intro h; rw [h] at q2; simp at q2; omega
  have Q5 : qs.length ≤ 5 := by omega
  generalize hR2 : p + 1 + 1 + (j : Int) = R2 at *
  obtain ⟨t,l',r3,b1,b2,b3,b4,b5⟩ := l_parts hb hl 0 R2 qs QNE q1 Q5 (by omega) (by omega)
  obtain ⟨x,xs,rfl⟩ := atI_e0 b1
  simp [tailS,row,e2] at b5
  simp only [List.length_cons] at b2
  have k3 := c_odd0 (bs := bs) r3
  have lb : xs.length + 1 + 1 ≤ bound := by unfold bound; omega
  refine ⟨x :: xs,r3,by simp only [List.length_cons]; omega,by omega,by omega,?_⟩
  rw [call_k lf n_spec_l20Term _ (F := F_spec_l20Term) rfl rfl]
  simp [F_spec_l20Term,mx,mn,k0,ho,k0',q0,q4,k1,hj,w1,k3,b5,row,e2]
theorem cut_s1 (l : List UInt8) {k : Int} (h0 : 0 ≤ k) (h1 : k ≤ l.length) : sliceS l none (some k) = some (.s (l.take k.toNat)) := by
 unfold sliceS
 simp only [Option.getD_some,Option.getD_none]
 rw [if_pos ⟨by omega,h0,h1⟩]; simp
theorem cut_s2 (l : List UInt8) {k : Int} (h0 : 0 ≤ k) (h1 : k ≤ l.length) : sliceS l (some k) none = some (.s (l.drop k.toNat)) := by
 unfold sliceS
 simp only [Option.getD_some,Option.getD_none]
 rw [if_pos ⟨h0,h1,by omega⟩]; simp
attribute [-simp] sliceS
set_option maxHeartbeats 4000000 in
theorem c_DrawReadTerm {bs : List Nat} (hb : ∀ y ∈ bs,y < 256) (hl : bs.length ≤ 1048576) :
  ∃ (m : Int) (s : List UInt8),(1 ≤ m ∧ m ≤ 5) ∧ s.length ≤ 100 ∧ call lf n_spec_DrawReadTerm [.sl 0 (bs.map .y)] = some (.tup [.i m,.s s],[]) := by
 obtain ⟨c1,c2⟩ := take_b hb
 have o := c_open hl
 generalize bs.take 2000 = cs at *
 have a1 := pk_bound c1 (p := 0) (n := 5) (by omega) (by omega) (by omega)
 have k1 := c_pick c1 c2 (p := 0) (n := 5) (by omega) (by omega) (by omega)
 simp at k1
 have w1 : wr (1 + pk cs 0 5) = 1 + pk cs 0 5 := wr_id (by omega) (by omega)
 obtain ⟨m,hm⟩ : ∃ m,1 + pk cs 0 5 = m := ⟨_,rfl⟩
 rw [hm] at w1
 obtain ⟨t,p,t1,p1,p2,t4⟩ := c_l20Term0 c1 c2 (p := 1) (m0 := m) (m := m) (by omega) (by omega) (by omega) (by omega) (by omega)
 have X := c_spec_TermText m t (by omega)
 have tl : (ttOf m t).length ≤ 60 := by
  cases hk : tmOk m t with
  | false => unfold ttOf; rw [hk]; simp
  | true =>
   obtain ⟨y,h1,h2,h3,h4⟩ := tt_tree hk
   rw [h3]; have := txt_len y; rw [h2] at this; omega
 have lb : t.length ≤ bound := by unfold bound; omega
 generalize ttOf m t = s at *
 have k2 := c_pick c1 c2 (p := p) (n := 3) (by omega) (by omega) (by omega)
 by_cases hp : pk cs p 3 = 0 ∧ 0 < s.length
 ·have hs : 0 < (s.length : Int) := by omega
  have k3 := c_pick c1 c2 (p := p + 1) (n := s.length) (by omega) (by omega) (by omega)
  have a3 := pk_bound c1 (p := p + 1) (n := s.length) (by omega) (by omega) (by omega)
  have k4 := c_pick c1 c2 (p := p + 1 + 1) (n := 8) (by omega) (by omega) (by omega)
  have a4 := pk_bound c1 (p := p + 1 + 1) (n := 8) (by omega) (by omega) (by omega)
  have k5 := c_pick c1 c2 (p := p + 1 + 1 + 1) (n := 2) (by omega) (by omega) (by omega)
  have a5 := pk_bound c1 (p := p + 1 + 1 + 1) (n := 2) (by omega) (by omega) (by omega)
  rw [hp.1] at k2
  generalize pk cs (p + 1) s.length = a at *
  generalize pk cs (p + 1 + 1) 8 = b at *
  generalize pk cs (p + 1 + 1 + 1) 2 = c at *
  have S1 := cut_s1 s a3.1 (by omega)
  have S2 := cut_s2 s (k := a + c) (by omega) (by omega)
  have w2 : wr (a + c) = a + c := wr_id (by omega) (by omega)
  have l1 : (s.take a.toNat).length ≤ 60 := by simp; omega
  have l2 : (s.drop (a + c).toNat).length ≤ 60 := by simp; omega
  have main : ∀ d : List UInt8,d.length ≤ 1 → call lf n_spec_DrawReadTerm [.sl 0 (bs.map .y)] = some (.tup [.i m,.s (s.take a.toNat ++ d ++ s.drop (a + c).toNat)],[]) → ∃ (m : Int) (s : List UInt8),(1 ≤ m ∧ m ≤ 5) ∧ s.length ≤ 100 ∧ call lf n_spec_DrawReadTerm [.sl 0 (bs.map .y)] = some (.tup [.i m,.s s],[]) := fun d hd h => ⟨m,_,by omega,by simp only [List.length_append,List.length_take,List.length_drop]; omega,h⟩
  have hs2 : 0 < s.length := hp.2
  have bb0 : (s.take a.toNat).length ≤ bound := by unfold bound; omega
  have bb1 : (s.take a.toNat).length + 1 ≤ bound := by unfold bound; omega
  have bb2 : (s.take a.toNat).length + (s.drop (a + c).toNat).length ≤ bound := by unfold bound; omega
  have bb3 : (s.take a.toNat).length + 1 + (s.drop (a + c).toNat).length ≤ bound := by unfold bound; omega
  have bb4 : (s.take a.toNat).length + ((s.drop (a + c).toNat).length + 1) ≤ bound := by omega
  have hb8 : b = 0 ∨ b = 1 ∨ b = 2 ∨ b = 3 ∨ b = 4 ∨ b = 5 ∨ b = 6 ∨ b = 7 := by omega
  generalize s.take a.toNat = u at *
  generalize s.drop (a + c).toNat = v at *
  rcases hb8 with rfl | rfl | rfl | rfl | rfl | rfl | rfl | rfl
  ·refine main [] (by simp) ?_
   rw [call_k lf n_spec_DrawReadTerm _ (F := F_spec_DrawReadTerm) rfl rfl]
   simp [F_spec_DrawReadTerm,o,k1,hm,w1,t4,X,lb,k2,hs,hs2,k3,k4,k5,S1,S2,w2,bb0,bb1,bb2,bb3,bb4]
  ·refine main [40] (by simp) ?_
   rw [call_k lf n_spec_DrawReadTerm _ (F := F_spec_DrawReadTerm) rfl rfl]
   simp [F_spec_DrawReadTerm,o,k1,hm,w1,t4,X,lb,k2,hs,hs2,k3,k4,k5,S1,S2,w2,bb0,bb1,bb2,bb3,bb4]
  ·refine main [41] (by simp) ?_
   rw [call_k lf n_spec_DrawReadTerm _ (F := F_spec_DrawReadTerm) rfl rfl]
   simp [F_spec_DrawReadTerm,o,k1,hm,w1,t4,X,lb,k2,hs,hs2,k3,k4,k5,S1,S2,w2,bb0,bb1,bb2,bb3,bb4]
  ·refine main [38] (by simp) ?_
   rw [call_k lf n_spec_DrawReadTerm _ (F := F_spec_DrawReadTerm) rfl rfl]
   simp [F_spec_DrawReadTerm,o,k1,hm,w1,t4,X,lb,k2,hs,hs2,k3,k4,k5,S1,S2,w2,bb0,bb1,bb2,bb3,bb4]
  ·refine main [124] (by simp) ?_
   rw [call_k lf n_spec_DrawReadTerm _ (F := F_spec_DrawReadTerm) rfl rfl]
   simp [F_spec_DrawReadTerm,o,k1,hm,w1,t4,X,lb,k2,hs,hs2,k3,k4,k5,S1,S2,w2,bb0,bb1,bb2,bb3,bb4]
  ·refine main [33] (by simp) ?_
   rw [call_k lf n_spec_DrawReadTerm _ (F := F_spec_DrawReadTerm) rfl rfl]
   simp [F_spec_DrawReadTerm,o,k1,hm,w1,t4,X,lb,k2,hs,hs2,k3,k4,k5,S1,S2,w2,bb0,bb1,bb2,bb3,bb4]
  ·refine main [97] (by simp) ?_
   rw [call_k lf n_spec_DrawReadTerm _ (F := F_spec_DrawReadTerm) rfl rfl]
   simp [F_spec_DrawReadTerm,o,k1,hm,w1,t4,X,lb,k2,hs,hs2,k3,k4,k5,S1,S2,w2,bb0,bb1,bb2,bb3,bb4]
  ·refine main [101] (by simp) ?_
   rw [call_k lf n_spec_DrawReadTerm _ (F := F_spec_DrawReadTerm) rfl rfl]
   simp [F_spec_DrawReadTerm,o,k1,hm,w1,t4,X,lb,k2,hs,hs2,k3,k4,k5,S1,S2,w2,bb0,bb1,bb2,bb3,bb4]
 ·refine ⟨m,s,by omega,by omega,?_⟩
  rw [call_k lf n_spec_DrawReadTerm _ (F := F_spec_DrawReadTerm) rfl rfl]
  by_cases h3 : pk cs p 3 = 0
  ·have hs : ¬ (0 < s.length) := fun h => hp ⟨h3,h⟩
   have hs' : s = [] := List.eq_nil_of_length_eq_zero (by omega)
   subst hs'
   rw [h3] at k2
   simp [F_spec_DrawReadTerm,o,k1,hm,w1,t4,X,lb,k2]
  ·have h3' : (pk cs p 3 == 0) = false := beq_eq_false_iff_ne.2 h3
   simp [F_spec_DrawReadTerm,o,k1,hm,w1,t4,X,lb,k2,h3,h3']
end
section
attribute [-simp] DV.cells
attribute [local simp] cells_st cells_sl cells_i cells_y cells_b cells_s
set_option maxHeartbeats 4000000 in
theorem law_FnReadTerm (x : List Nat) (_ : x.length ≤ Go.maxLen) (hb : ∀ y ∈ x,y < 256) : call lf n_laws_FnReadTerm [bys x] = some (.b true,[]) := by
 show call lf n_laws_FnReadTerm [.sl 0 (x.map .y)] = _
 rw [call_k lf n_laws_FnReadTerm _ (F := F_laws_FnReadTerm) rfl rfl]
 by_cases hl : 1048576 < (x.length : Int)
 ·simp (config := { maxSteps := 2000000 }) [F_laws_FnReadTerm,hl]
 ·obtain ⟨m,s,a1,s1,d⟩ := c_DrawReadTerm hb (by omega)
  have V1 := c_impl_ReadTerm m s (by omega)
  have V2 := c_spec_ReadTerm m s (by omega)
  have rl := rd_len m s
  cases hr : rdOf m s with
  | none =>
   rw [hr] at V1 V2
   have S := c_sameMarks [] [] (by simp)
   simp at V1 V2 S
   simp (config := { maxSteps := 2000000 }) [F_laws_FnReadTerm,hl,d,V1,V2,S,c_alive]
  | some t =>
   obtain ⟨h0,h1⟩ := rd_some hr
   have hf := rd_refused hr
   rw [hr] at V1 V2 rl
   simp only [Option.getD_some,Option.isSome_some] at V1 V2 rl
   have S := c_sameMarks t t (by omega)
   rw [show (t == t) = true from beq_self_eq_true _] at S
   have R := c_impl_ReadTerm m ([40] ++ s ++ [41]) (by simp; omega)
   rw [hf] at R
   simp at R
   have X := c_impl_TermText m t (by omega)
   rw [h1] at X
   have C := c_impl_TermOk m t (by omega)
   rw [h0] at C
   have lb1 : t.length ≤ bound := by unfold bound; omega
   have lb2 : 1 + s.length ≤ bound := by unfold bound; omega
   have lb3 : s.length + 1 + 1 ≤ bound := by unfold bound; omega
   simp (config := { maxSteps := 2000000 }) [F_laws_FnReadTerm,hl,d,V1,V2,S,R,X,C,lb1,lb2,lb3]
end
end Zz
