/- What the functions answer, as equations: EA. No conditions. -/
import Derived.Test.YtahkmbihhkjebabDoorIrzr
import Derived.Test.YtahkmbihhkjebabDoorE0
set_option linter.unusedSectionVars false
set_option linter.unusedVariables false
set_option linter.unusedSimpArgs false
namespace Zz
open Go.Lg Md
set_option linter.unusedSimpArgs false
set_option linter.unusedVariables false
attribute [local simp] tm_mv tm_newnil tm_pick tm_bin tm_eqb tm_eqs tm_un tm_len tm_lens tm_chk tm_fld tm_fldv tm_idxa tm_idx tm_load tm_store tm_slice tm_slices tm_make tm_alloc tm_box tm_build tm_app tm_conv tm_ext tm_call tm_calld tm_mkfn tm_mm tm_idxp tm_eqn tm_callg tm_callm tm_bslice0 tm_bslice1 tm_bslice2 tm_bslice nt_nil nt_cons nc_nil' nc_cons sa_mkfn cv_adr cv_i cv_y cv_b cv_w sa_calld nm_def nh_nil nh_cons nxM_some nxM_none sc_st sd_i sd_y sd_b sd_s sd_w sd_q sc_i sc_y sc_b sc_s sc_w sc_q sa_bslice sa_app nc_own nc_nil sa_call sa_alloc sa_build sa_callm rm_nil rm_one rm_gen bq_mul bq_eql ia_mv ia_newnil ia_pick ia_bin ia_eqb ia_eqs ia_un ia_len ia_lens ia_chk ia_fld ia_fldv ia_idxa ia_idx ia_load ia_store ia_slice ia_slices ia_make ia_alloc ia_box ia_build ia_bslice ia_app ia_b2i ia_i2b ia_i2i ia_same ia_b2s ia_s2b ia_ext ia_mm ia_idxp ia_calld ia_mkfn ia_i2r ia_r2s ia_call pt_nil pt_cons mi_nil mi_cons md_bslice md_mv md_newnil md_pick md_bin md_eqb md_un md_len md_lens md_fld md_fldv md_idxa md_idx md_load md_store md_slice md_slices md_make md_alloc md_box md_build md_app md_conv md_ext md_call md_calld md_callg md_mkfn md_mm md_idxp md_eqn md_eqs md_chk tg_bslice tg_mv tg_newnil tg_pick tg_bin tg_eqb tg_un tg_len tg_lens tg_fld tg_fldv tg_idxa tg_idx tg_load tg_store tg_slice tg_slices tg_make tg_alloc tg_box tg_build tg_app tg_conv tg_ext tg_call tg_calld tg_callg tg_mkfn tg_mm tg_idxp tg_eqn tg_eqs tg_chk rp_eq ro_eq ifP_t ifP_f np_def ng1_nil ng2_nil ng_gate ng_gen tgA_t tgA_0 tgA_1 tgA_2 aC_nil aC_c aC_t nxP_some nxP_none rq_nil rq_gen rq_gate nxR_some nxR_none ru_nil ru_gen ru_gate pl_none pl_some gt_nil gt_t gt_c di_some di_none an_nil an_cons nxG_some nxG_none rg_nil rg_gen rg_gate oldO_some oa_nil oa_i oa_y oa_b oa_s oa_st oa_sl oa_own oa_oad oa_nl al_nil al_cons al_i al_y al_b al_s al_st al_sl nxF_some nxF_none rf_nil rf_gen rf_gate hk_newnil hk_make hk_alloc hk_box hk_build hk_bslice hk_call hk_store hk_app hk_appn em_cel mm_cel ok_cel ov_cel so_cel il_cel oi_cel oj_cel ol_cel nm_cel hk_appc ef_bslice5 ef_app_cel ks_shut shu_own shc_none shc_cel cl_nil cl_cons ai_nil ai_cons il_i il_y il_b il_s il_st il_sl il_own il_adr il_oad il_ref il_fr il_tup il_nil il_np il_und il_dead ol_adr ol_b ol_dead ol_e ol_fn ol_fr ol_i ol_nil ol_np ol_oad ol_own ol_q ol_r ol_ref ol_s ol_sl ol_st ol_tup ol_und ol_w ol_y oj_e oj_i oj_y oj_b oj_s oj_st oj_sl oj_own oj_adr oj_oad oj_ref oj_fr oj_tup oj_nil oj_np oj_und oj_dead oj_w oj_q oj_r oj_fn oi_e oi_i oi_y oi_b oi_s oi_st oi_sl oi_own oi_adr oi_oad oi_ref oi_fr oi_tup oi_nil oi_np oi_und oi_dead as_nil as_cons ao_nil ao_cons av_i av_y av_b av_s av_st av_sl av_own av_adr av_oad av_ref av_fr av_tup av_nil av_np av_und av_dead pro_cons ghK_some ks_promote ks_freeze frz_own ks_rename ren_own dropO adoptP newP wholeP cutP allOldL ex_skip ex_ret ex_exit ks_region ks_seq ks_cond ks_block seqK_n seqK_e seqK_r regK_some condK_t condK_f blkK_n blkK_r blkK_e endK_n endK_r rr_false rr_true rd_free mo_nil mo_cons drK_some drK_none nxW_some nxW_none rw_nil rw_gen rw_gate ak_newnil ak_make ak_alloc ak_box ak_build ak_bslice ak_call ak_store ak_app iw_mm iw_eqn iw_idxp ef_callg cgK_some gv_e gv_own gv_i gv_sl gv_st gv_b gv_nil gvK_some gvO_some iw_callg ia_callg ak_callg hk_callg is_mv is_newnil is_pick is_bin is_eqb is_eqs is_un is_len is_lens is_chk is_fld is_fldv is_idxa is_idx is_load is_slice is_slices is_make is_alloc is_box is_build is_bslice is_app is_conv is_ext is_call is_calld is_callg is_mkfn is_mm is_idxp is_eqn is_store rt_nil rt_gen rt_gate nxT_some nxT_none ef_eqn_nil ef_eqn_sl ef_eqn_own ia_eqn ef_mmx ef_mmn ef_idxp nxD_some nxD_none ov_i ov_y ov_b ov_s ov_st ov_sl ov_own ov_oad ov_adr ov_nil ov_np ov_und ov_dead ov_tup oldN_some oldN_nil oldN_none so_none so_i so_y so_b so_s so_st so_sl so_adr so_nil so_np so_und so_dead anyM_nil anyM_t anyM_c so_own so_oad rd_nil rd_gen rd_mv rd_gate iw_mv iw_newnil iw_pick iw_bin iw_eqb iw_eqs iw_un iw_len iw_lens iw_chk iw_fld iw_fldv iw_idxa iw_idx iw_load iw_store iw_slice iw_slices iw_make iw_alloc iw_box iw_build iw_bslice iw_app iw_b2i iw_i2b iw_i2i iw_same iw_b2s iw_s2b iw_ext iw_call nm_i nm_y nm_b nm_s nm_st nm_sl nm_own nm_oad nm_adr nm_nil nm_np nm_und nm_dead nm_tup rl_nil rl_gate rl_mv rl_gen opv_t opv_c nx_some nx_none gate_tt gate_tf gate_ft gate_ff gate_u fr_ap em_nil em_i em_y em_b em_s em_st em_sl em_own em_adr em_oad em_ref em_nl em_np em_und em_dead em_tup0 em_tup_i em_tup_b em_tup_s em_tup_sl em_tup_st em_tup_np em_tup_own em_tup_oad mm_i mm_y mm_b mm_s mm_st mm_sl mm_own mm_oad mm_adr mm_nil mm_np mm_und mm_dead ef_mv ef_newnil ef_pickt ef_pickf ef_bin ef_eqb ef_eqs ef_un ef_lens ef_len_sl ef_len_own ef_len_nil ef_chk_adr ef_chk_oad ef_fld_adr ef_fld_oad ef_fldv idxR_some ef_idxa_sl ef_idxa_own ef_idx ef_load_adr_st ef_load_adr_i ef_load_adr_y ef_load_adr_b ef_load_adr_s ef_load_adr_sl atN_nil atN_zero atN_succ ef_load_oad ef_store ef_slice ef_slices ef_make ef_alloc ef_box ef_build ef_bslice ef_app_own ef_app_nil ef_b2i ef_i2b ef_i2i ef_same ef_ext ret1 ret2_some calL_some ef_call retC_i retC_y retC_b retC_s retC_st retC_sl retC_np retC_fr retC_ref retC_tup rk_nil rk_i rk_y rk_b rk_s rk_st rk_sl rk_own rk_oad rk_nl ok_nil ok_i ok_y ok_b ok_s ok_st ok_sl ok_own ok_oad ok_nl lo_nil lo_i lo_y lo_b lo_s lo_st lo_sl lo_own lo_oad lo_nl pr_nil pr_i pr_y pr_b pr_s pr_st pr_sl pr_own pr_nl pr_oad nr_i nr_y nr_b nr_s nr_st nr_sl nr_fr nr_np nr_tup ng_i ng_b ng_s ng_fr ng_nil resV effP_eff binD bi_add bi_sub bi_mul bi_quo bi_rem bi_eql bi_neq bi_lss bi_leq bi_gtr bi_geq bi_shl bi_shr bi_and bi_or bi_xor bi_andNot binY binS unD look put putD LS.get LS.drop killE sweep lookO putO dropO enter leave giveBackL giveBack outs lendArgs lendArg newOuts takeIn takeInL lendL DV.lend adoptL DV.adopt elems apartKs part DV.cells unpart settle settleL over mkId szId fillP fillE tk_e2 tk_i tk_y lt_e2 lt_i lt_y lend_rep al_e2 al_is al_ys al_rep al_app lend_app adopt_app new_app lend_e2 lend_i lend_y adopt_e2 adopt_i adopt_y new_e2 new_i allNewL DV.allNew bounds sliceD sliceS em_w em_q em_r em_fn em_tup_w em_tup_q em_tup_r mm_w mm_q mm_r mm_fn ef_load_adr_w ef_load_adr_q ef_load_adr_r retC_w retC_q retC_r rk_w rk_q rk_r rk_fn ok_w ok_q ok_r ok_fn lo_w lo_q lo_r lo_fn pr_w pr_q pr_r pr_fn nr_w nr_q nr_r ng_w ng_q ng_r oa_w oa_q oa_r oa_fn al_w al_q al_r al_fn ov_w ov_q ov_r ov_fn so_w so_q so_r so_fn il_w il_q il_r il_fn oi_w oi_q oi_r oi_fn av_w av_q av_r av_fn nm_w nm_q nm_r nm_fn ef_i2r ef_r2s ef_mkfn ef_mkbd ef_idxp_adr ef_idxp_q ef_calld_nil ef_calld_adr ef_calld_bd DV.capB capsOk DV.cell List.all_cons List.all_nil rk_own_t lo_own_t lk_f lk_t pr_own_t mutB ak_calld hk_calld iw_calld iw_mkfn iw_i2r iw_r2s bw_and bw_or bw_xor bw_andNot bw_eql bw_neq sw_shl sw_shr sq_shl gEnv_nil rk_adr ok_adr lo_adr pr_adr oa_adr capL capArg DV.cap ak_mkfn hk_mkfn hk_mkbd ef_callm gf_ap ga_nil ga_cons tgv_own gk_e gk_giv gk_i gk_y gk_b gk_s gk_w gk_q gk_r gk_fn gk_st gk_sl gk_own gk_oad gk_adr gk_nl gk_np rk_giv ok_giv lo_giv pr_giv oa_giv iw_callm hk_callm ak_callm is_callm ia_callm tg_callm md_callm ef_i2q ef_q2i ef_q2q iw_i2q iw_q2i iw_q2q ia_i2q ia_q2i ia_q2q bq_and bq_add bq_shr sq_shr tgv_nil gk_ref rk_ref ok_ref lo_ref pr_ref oa_ref retC_fn nr_fn ef_load_adr_fn ks_close cls_oad
attribute [local congr] nxM_congr ifP_congr nxP_congr nxR_congr nxT_congr nxG_congr nxF_congr ghK_congr gate_congr nx_congr nxD_congr runL_congr runD_congr eff_congr calL_congr ret2_congr seqK_congr regK_congr condK_congr endK_congr drK_congr nxW_congr
attribute [local simp ↓] nxM_some rm_nil rm_one rm_gen nxT_some rt_nil rt_gen rt_gate nxP_some rq_nil rq_gen rq_gate nxR_some ru_nil ru_gen ru_gate nxG_some rg_nil rg_gen rg_gate nxF_some rf_nil rf_gen rf_gate ks_promote ks_freeze frz_own ks_rename ghK_some gate_tt gate_tf gate_ft gate_ff gate_u nx_some nxD_some rl_nil rl_mv rl_gen rl_gate rd_nil rd_mv rd_gen rd_gate rd_free rr_false rr_true drK_some drK_none nxW_some rw_nil rw_gen rw_gate ks_region ks_seq ks_cond ks_block seqK_n seqK_e seqK_r regK_some condK_t condK_f blkK_n blkK_r endK_n endK_r calL_some ret2_some opv_t opv_c
section
theorem c_impl_isWithin (a b c : Int) : call lf n_impl_isWithin [.i a, .i b, .i c] = some (.b (decide (b ≤ a ∧ a ≤ c)), []) := by
  rw [call_k lf n_impl_isWithin _ (F := F_impl_isWithin) rfl rfl]
  by_cases h : b ≤ a <;> simp [F_impl_isWithin, h]
theorem c_spec_l1In (a b c : Int) : call lf n_spec_l1In [.i a, .i b, .i c] = some (.b (decide (b ≤ a ∧ a ≤ c)), []) := by
  rw [call_k lf n_spec_l1In _ (F := F_spec_l1In) rfl rfl]
  by_cases h : b ≤ a <;> simp [F_spec_l1In, h]
theorem c_impl_manyOk (a : Int) : call lf n_impl_manyOk [.i a] = some (.b (nOk a), []) := by
  rw [call_k lf n_impl_manyOk _ (F := F_impl_manyOk) rfl rfl]
  simp [F_impl_manyOk, c_impl_isWithin, nOk]

theorem l_impl_TestsOk (n : Int) (hb : n < 1099511627776) (es : List DV) (rest : List T) : ∀ k : Int, 0 ≤ k → k + (rest.map e2).length = n → es.drop k.toNat = rest.map e2 →
    ex lf F_impl_TestsOk_W0 ⟨[(9, .sl 0 es), (10, .i n), (11, .i k)], []⟩ =
    if rest.all tOk then some (.exit 0, ⟨[(9, .sl 0 es), (10, .i n), (11, .i n)], []⟩) else some (.ret, ⟨[(2, .b false)], []⟩) := by
  induction rest with
  | nil =>
    intro k h0 hn hd
    rw [w_impl_TestsOk_0]
    have hk : k = n := by simpa using hn
    simp [F_impl_TestsOk_L0, hk]
  | cons t rest ih =>
    intro k h0 hn hd
    obtain ⟨q1, q2, q3, q4, q5, q6⟩ := stp h0 hn hb hd
    have ih := ih (k + 1) q4 q5 q6
    simp only [e2] at q2
    rw [w_impl_TestsOk_0]
    have xt := tOk_def t
    cases x1 : decide (1 ≤ t.1 ∧ t.1 ≤ 9) <;> cases x2 : decide (1 ≤ t.2 ∧ t.2 ≤ 5) <;> rw [x1, x2] at xt <;> simp [F_impl_TestsOk_L0, q1, q2, q3, c_impl_isWithin, ih, xt, x1, x2, -List.all_eq_true]
theorem c_impl_TestsOk (ts : List T) (hb : (ts.length : Int) < 1099511627776) : call lf n_impl_TestsOk [.sl 0 (ts.map e2)] = some (.b (tsOk ts), []) := by
  rw [call_k lf n_impl_TestsOk _ (F := F_impl_TestsOk) rfl rfl]
  have L := l_impl_TestsOk ts.length hb (ts.map e2) ts 0 (by omega) (by simp) (by simp)
  cases h1 : nOk ts.length <;> cases h2 : ts.all tOk <;> simp [F_impl_TestsOk, c_impl_manyOk, L, h1, h2, tsOk]

theorem l_spec_TestsOk (n : Int) (hb : n < 1099511627776) (es : List DV) (hE : (es.length : Int) = n) (rest : List T) : ∀ k : Int, 0 ≤ k → k + (rest.map e2).length = n → es.drop k.toNat = rest.map e2 →
    ex lf F_spec_TestsOk_W0 ⟨[(0, .sl 0 es), (3, .i k)], []⟩ =
    if rest.all tOk then some (.exit 0, ⟨[(0, .sl 0 es), (3, .i n)], []⟩) else some (.ret, ⟨[(2, .b false)], []⟩) := by
  induction rest with
  | nil =>
    intro k h0 hn hd
    rw [w_spec_TestsOk_0]
    have hk : k = n := by simpa using hn
    simp [F_spec_TestsOk_L0, hk, hE]
  | cons t rest ih =>
    intro k h0 hn hd
    obtain ⟨q1, q2, q3, q4, q5, q6⟩ := stp h0 hn hb hd
    have ih := ih (k + 1) q4 q5 q6
    simp only [e2] at q2
    rw [w_spec_TestsOk_0]
    have xt := tOk_def t
    cases x1 : decide (1 ≤ t.1 ∧ t.1 ≤ 9) <;> cases x2 : decide (1 ≤ t.2 ∧ t.2 ≤ 5) <;> rw [x1, x2] at xt <;> simp [F_spec_TestsOk_L0, q1, q2, q3, hE, c_spec_l1In, ih, xt, x1, x2, -List.all_eq_true]
theorem c_spec_TestsOk (ts : List T) (hb : (ts.length : Int) < 1099511627776) : call lf n_spec_TestsOk [.sl 0 (ts.map e2)] = some (.b (tsOk ts), []) := by
  rw [call_k lf n_spec_TestsOk _ (F := F_spec_TestsOk) rfl rfl]
  have L := l_spec_TestsOk ts.length hb (ts.map e2) (by simp) ts 0 (by omega) (by simp) (by simp)
  cases h2 : ts.all tOk <;> simp [F_spec_TestsOk, c_spec_l1In, L, h2, tsOk, nOk]

theorem c_impl_statesOf (a : Int) (h0 : 0 ≤ a) (h5 : a ≤ 40) : call lf n_impl_statesOf [.i a] = some (.i (2 ^ a.toNat), []) := by
  rw [call_k lf n_impl_statesOf _ (F := F_impl_statesOf) rfl rfl]
  have h1 : ¬ a < 0 := by omega
  simp [F_impl_statesOf, h1, shl1 h0 h5]
theorem nOk_iff {a : Int} : nOk a = true ↔ 1 ≤ a ∧ a ≤ 5 := by simp [nOk]
theorem c_impl_StateOk (a b : Int) : call lf n_impl_StateOk [.i a, .i b] = some (.b (stOk a b), []) := by
  rw [call_k lf n_impl_StateOk _ (F := F_impl_StateOk) rfl rfl]
  cases h : nOk a with
  | true =>
    have h' := nOk_iff.1 h
    have p := pow2_le (k := a) (by omega) (by omega)
    have w := wr_id (n := 2 ^ a.toNat - 1) (by omega) (by omega)
    have e : decide (0 ≤ b ∧ b ≤ 2 ^ a.toNat - 1) = decide (0 ≤ b ∧ b < 2 ^ a.toNat) := decide_eq_decide.2 (by omega)
    simp [F_impl_StateOk, c_impl_manyOk, c_impl_isWithin, h, stOk, c_impl_statesOf a (by omega) (by omega), w, e]
  | false => simp [F_impl_StateOk, c_impl_manyOk, c_impl_isWithin, h, stOk]
theorem c_spec_StateOk (a b : Int) : call lf n_spec_StateOk [.i a, .i b] = some (.b (stOk a b), []) := by
  rw [call_k lf n_spec_StateOk _ (F := F_spec_StateOk) rfl rfl]
  cases h : nOk a with
  | true =>
    have h' := nOk_iff.1 h
    have h2 : decide (1 ≤ a ∧ a ≤ 5) = true := h
    have h3 : ¬ a < 0 := by omega
    have p := pow2_le (k := a) (by omega) (by omega)
    have w := wr_id (n := 2 ^ a.toNat - 1) (by omega) (by omega)
    have e : decide (0 ≤ b ∧ b ≤ 2 ^ a.toNat - 1) = decide (0 ≤ b ∧ b < 2 ^ a.toNat) := decide_eq_decide.2 (by omega)
    simp [F_spec_StateOk, c_spec_l1In, h, h2, h3, stOk, shl1 (k := a) (by omega) (by omega), w, e]
  | false =>
    have h2 : decide (1 ≤ a ∧ a ≤ 5) = false := h
    simp [F_spec_StateOk, c_spec_l1In, h, h2, stOk]
theorem tsOk_iff {ts : List T} : tsOk ts = true ↔ (1 ≤ (ts.length : Int) ∧ (ts.length : Int) ≤ 5) ∧ ts.all tOk = true := by
  rw [tsOk, Bool.and_eq_true, nOk_iff]
end
section
theorem p2 {ts : List T} (h : tsOk ts = true) : 1 ≤ (2 : Nat) ^ ts.length ∧ (2 : Nat) ^ ts.length ≤ 32 ∧ ((2 ^ ts.length : Nat) : Int) = 2 ^ ts.length := by
  have h' := tsOk_iff.1 h
  have a : (2 : Nat) ^ ts.length ≤ 2 ^ 5 := Nat.pow_le_pow_right (by omega) (by omega)
  exact ⟨Nat.pow_pos (by omega), by omega, by simp⟩
theorem at_e2 {ts : List T} {i : Nat} (hi : i < ts.length) : ∃ t, ts[i]? = some t ∧ t ∈ ts ∧ atI (ts.map e2) i = some (.st [.i t.1, .i t.2]) ∧ ts.take (i + 1) = ts.take i ++ [t] := by
  refine ⟨ts[i], List.getElem?_eq_getElem hi, List.getElem_mem hi, ?_, List.take_succ_eq_append_getElem hi⟩
  simp [atI, hi, e2]
def ot (ts : List T) (i : Nat) : List DV := ((ts.take i).map other).map e2
theorem ot_len {ts : List T} {i : Nat} (hi : i ≤ ts.length) : (ot ts i).length = i := by simp [ot]; omega
theorem ot_succ {ts : List T} {i : Nat} {t : T} (h : ts.take (i + 1) = ts.take i ++ [t]) : ot ts (i + 1) = ot ts i ++ [.st [.i t.1, .i (6 - t.2)]] := by
  simp [ot, h, e2, other]
def cn (ts : List T) (i : Nat) : List DV := ot ts i ++ List.replicate (ts.length - i) (.st [.i 0, .i 0])
theorem cn_len {ts : List T} {i : Nat} (hi : i ≤ ts.length) : (cn ts i).length = ts.length := by simp [cn, ot_len hi]; omega
theorem cn_get {ts : List T} {i : Nat} (hi : i < ts.length) : atN (cn ts i) i = some (.st [.i 0, .i 0]) := by
  show (cn ts i)[i]? = _
  have := ot_len (ts := ts) (i := i) (by omega)
  unfold cn
  rw [List.getElem?_append_right (by omega), this, Nat.sub_self, List.getElem?_replicate]
  simp; omega
theorem cn_set {ts : List T} {i : Nat} {t : T} (hi : i < ts.length) (h : ts.take (i + 1) = ts.take i ++ [t]) : (cn ts i).set i (.st [.i t.1, .i (6 - t.2)]) = cn ts (i + 1) := by
  have := ot_len (ts := ts) (i := i) (by omega)
  unfold cn
  rw [List.set_append_right _ _ (by omega), this, Nat.sub_self, ot_succ h, show ts.length - i = (ts.length - (i + 1)) + 1 by omega, List.replicate_succ, List.set_cons_zero, List.append_assoc]
  rfl
theorem cn_zero (ts : List T) : cn ts 0 = List.replicate ts.length (.st [.i 0, .i 0]) := by simp [cn, ot]
theorem cn_all (ts : List T) : cn ts ts.length = (ts.map other).map e2 := by simp [cn, ot]
theorem l_impl_OtherTests (ts : List T) (h1 : tsOk ts = true) :
    ex lf F_impl_OtherTests_W0 ⟨[(3, .own 5648 ts.length 0 ts.length), (12, .sl 0 (ts.map e2)), (13, .i ts.length), (14, .i 0)], [(5648, cn ts 0)]⟩ =
      some (.exit 0, ⟨[(3, .own 5648 ts.length 0 ts.length), (12, .sl 0 (ts.map e2)), (13, .i ts.length), (14, .i ts.length)], [(5648, cn ts ts.length)]⟩) := by
  have h1' := tsOk_iff.1 h1
  refine loop_count ts.length (fun i => ⟨[(3, .own 5648 ts.length 0 ts.length), (12, .sl 0 (ts.map e2)), (13, .i ts.length), (14, .i i)], [(5648, cn ts i)]⟩) (fun i hi => ?_) ?_ (by simp)
  · obtain ⟨t, q1, q2, q3, q4⟩ := at_e2 hi
    have hlt : ((i : Nat) : Int) < ts.length := by omega
    have w1 : wr ((i : Int) + 1) = (i : Int) + 1 := wr_id (by omega) (by omega)
    have tk := tOk_iff.1 (List.all_eq_true.1 h1'.2 t q2)
    have w6 : wr (6 - t.2) = 6 - t.2 := wr_id (by omega) (by omega)
    have c1 := cn_len (ts := ts) (i := i) (by omega)
    have c2 := cn_get hi
    have c3 := cn_set hi q4
    simp [F_impl_OtherTests_L0, hi, q3, w1, w6, c1, c2, c3]
  · simp [F_impl_OtherTests_L0]
theorem c_impl_OtherTests (ts : List T) (hb : (ts.length : Int) < 1099511627776) : call lf n_impl_OtherTests [.sl 0 (ts.map e2)] = some (.fr 2 ((others ts).map e2), []) := by
  rw [call_k lf n_impl_OtherTests _ (F := F_impl_OtherTests) rfl rfl]
  have C := c_impl_TestsOk ts hb
  cases h1 : tsOk ts with
  | false => simp [F_impl_OtherTests, C, h1, others]
  | true =>
    have h1' := tsOk_iff.1 h1
    have L := l_impl_OtherTests ts h1
    have b1 : (ts.length : Int) ≤ bound := by unfold bound; omega
    rw [cn_zero] at L
    simp [F_impl_OtherTests, C, h1, b1, L, others, cn_len, cn_all]
end
section
theorem c_alive : call lf n_laws_alive [] = some (.b true, []) := by
  rw [call_k lf n_laws_alive _ (F := F_laws_alive) rfl rfl]
  have a := c_impl_TestsOk [(1, 1)] (by simp)
  have b := c_impl_TestsOk [(0, 0)] (by simp)
  have a1 : tsOk [(1, 1)] = true := by decide
  have b1 : tsOk [(0, 0)] = false := by decide
  rw [a1] at a
  rw [b1] at b
  simp [e2] at a b
  simp [F_laws_alive, a, b]
end
section
/-- a mark read with p parts before it -/
def mkS (m p : Int) (t : T) : Option Int :=
  if t.1 = 0 then (if 0 ≤ t.2 ∧ t.2 < m then some (p + 1) else none)
  else if t.1 = 1 then (if t.2 = 0 ∧ 1 ≤ p then some p else none)
  else if t.1 = 2 ∨ t.1 = 3 then (if t.2 = 0 ∧ 2 ≤ p then some (p - 1) else none)
  else none
def runM (m : Int) : Int → List T → Option Int
  | p, [] => some p
  | p, t :: r => match mkS m p t with
    | some q => runM m q r
    | none => none
end
section
/-- how many parts a mark takes -/
def taken (k : Int) : Nat := if k = 0 then 0 else if k = 1 then 1 else 2
def stepG {P : Type} (mk : T → List P → P) (st : List P) (t : T) : List P := st.take (st.length - taken t.1) ++ [mk t (st.drop (st.length - taken t.1))]
def yesW (a : Nat) : BitVec 32 := match a with
  | 0 => 2863311530#32
  | 1 => 3435973836#32
  | 2 => 4042322160#32
  | 3 => 4278255360#32
  | _ => 4294901760#32
def mkW (t : T) (ps : List (BitVec 32)) : BitVec 32 :=
  if t.1 = 0 then yesW t.2.toNat else if t.1 = 1 then ~~~(ps.getD 0 0) else if t.1 = 2 then ps.getD 0 0 &&& ps.getD 1 0 else ps.getD 0 0 ||| ps.getD 1 0
def tsW (ts : List T) : BitVec 32 := (ts.foldl (stepG mkW) []).headD 0
/-- the value of a term in a state -/
def tv (ts : List T) (s : Nat) : Bool := (tsW ts).getLsbD s
end
section
theorem xor_bound {a b : Int} (h1 : 0 ≤ a) (h2 : a < 4611686018427387904) (h3 : 0 ≤ b) (h4 : b < 4611686018427387904) : 0 ≤ xorI a b ∧ xorI a b < 4611686018427387904 := by
  have e : (BitVec.ofInt 64 a ^^^ BitVec.ofInt 64 b).toNat = a.toNat ^^^ b.toNat := by
    simp only [BitVec.toNat_xor, BitVec.toNat_ofInt]
    congr 1 <;> omega
  have k : a.toNat ^^^ b.toNat < 2 ^ 62 := Nat.xor_lt_two_pow (by omega) (by omega)
  unfold xorI
  rw [e, wr_id (by omega) (by omega)]
  omega
def hs (bs : List Nat) (p : Int) : Int := (bs.getD (p.tmod bs.length).toNat 0 : Nat) * 131 + (bs.getD ((p * 7 + 3).tmod bs.length).toNat 0 : Nat) * 1117 + p * 29 + p.tdiv bs.length * 53
def pk (bs : List Nat) (p n : Int) : Int := if bs.length = 0 then 0 else if p < bs.length then ((bs.getD p.toNat 0 : Nat) : Int).tmod n else (xorI (hs bs p) ((hs bs p).tdiv 64)).tmod n
theorem byte_lt {bs : List Nat} (hb : ∀ y ∈ bs, y < 256) (i : Nat) : bs.getD i 0 < 256 := by
  by_cases h : i < bs.length
  · have : bs.getD i 0 = bs[i] := by simp [List.getD, h]
    rw [this]
    exact hb _ (List.getElem_mem h)
  · have : bs.getD i 0 = 0 := by simp [List.getD, List.getElem?_eq_none (by omega : bs.length ≤ i)]
    omega
theorem tdiv_bound {p l : Int} (h0 : 0 ≤ p) (hl : 1 ≤ l) : 0 ≤ p.tdiv l ∧ p.tdiv l ≤ p := by
  rw [Int.tdiv_eq_ediv_of_nonneg h0]
  exact ⟨Int.ediv_nonneg h0 (by omega), Int.ediv_le_self _ h0⟩
theorem tmod_bound {p l : Int} (h0 : 0 ≤ p) (hl : 1 ≤ l) : 0 ≤ p.tmod l ∧ p.tmod l < l := by
  rw [Int.tmod_eq_emod_of_nonneg h0]
  exact ⟨Int.emod_nonneg _ (by omega), Int.emod_lt_of_pos _ (by omega)⟩
theorem hs_bound {bs : List Nat} (hb : ∀ y ∈ bs, y < 256) {p : Int} (h0 : 0 ≤ p) (h1 : p ≤ 1000000) (hl : 1 ≤ bs.length) : 0 ≤ hs bs p ∧ hs bs p < 1000000000 := by
  have a := byte_lt hb (p.tmod bs.length).toNat
  have b := byte_lt hb ((p * 7 + 3).tmod bs.length).toNat
  have c := tdiv_bound (p := p) (l := bs.length) h0 (by omega)
  unfold hs
  omega
theorem pk_bound {bs : List Nat} (hb : ∀ y ∈ bs, y < 256) {p n : Int} (h0 : 0 ≤ p) (h1 : p ≤ 1000000) (hn : 1 ≤ n) : 0 ≤ pk bs p n ∧ pk bs p n < n := by
  unfold pk
  split
  · omega
  · split
    · exact tmod_bound (by omega) hn
    · have a := hs_bound hb h0 h1 (by omega)
      have b := tdiv_bound (p := hs bs p) (l := 64) a.1 (by omega)
      have c := xor_bound a.1 (by omega) b.1 (by omega)
      exact tmod_bound c.1 hn
theorem atI_y {bs : List Nat} {i : Int} (h0 : 0 ≤ i) (h1 : i < bs.length) : atI (bs.map .y) i = some (.y (bs.getD i.toNat 0)) := by
  have : i.toNat < bs.length := by omega
  simp [atI, h0, List.getD, this]

theorem c_pick {bs : List Nat} (hb : ∀ y ∈ bs, y < 256) (hl : bs.length ≤ 2000) {p n : Int} (h0 : 0 ≤ p) (h1 : p < 1000000) (hn : 1 ≤ n) :
    call lf n_spec_l20Rd_pick [.ref (.st [.sl 0 (bs.map .y), .i p]), .i n] = some (.i (pk bs p n), [.st [.sl 0 (bs.map .y), .i (p + 1)]]) := by
  rw [call_k lf n_spec_l20Rd_pick _ (F := F_spec_l20Rd_pick) rfl rfl]
  have w1 : wr (p + 1) = p + 1 := wr_id (by omega) (by omega)
  have w2 : wr p = p := wr_id (by omega) (by omega)
  have n1 : ¬ n < 1 := by omega
  have n2 : ¬ n = 0 := by omega
  by_cases e : bs.length = 0
  · have e1 : ((bs.length : Int) == 0) = true := by rw [e]; rfl
    simp [F_spec_l20Rd_pick, w1, n1, e1, pk, e]
  · have e1 : ((bs.length : Int) == 0) = false := beq_eq_false_iff_ne.2 (by omega)
    by_cases f : p < bs.length
    · have a := atI_y (bs := bs) h0 f
      simp [F_spec_l20Rd_pick, w1, w2, n1, n2, e1, pk, e, f, a]
    · have lpos : (1 : Int) ≤ bs.length := by omega
      have l0 : ¬ bs = [] := fun h => e (by rw [h]; rfl)
      have t1 := tmod_bound h0 lpos
      have t2 := tmod_bound (p := p * 7 + 3) (by omega) lpos
      have a1 := atI_y t1.1 t1.2
      have a2 := atI_y t2.1 t2.2
      have b1 := byte_lt hb (p.tmod bs.length).toNat
      have b2 := byte_lt hb ((p * 7 + 3).tmod bs.length).toNat
      have d := tdiv_bound h0 lpos
      have H := hs_bound hb h0 (by omega) (by omega : 1 ≤ bs.length)
      have hd : hs bs p = (bs.getD (p.tmod bs.length).toNat 0 : Nat) * 131 + (bs.getD ((p * 7 + 3).tmod bs.length).toNat 0 : Nat) * 1117 + p * 29 + p.tdiv bs.length * 53 := rfl
      have hp : pk bs p n = (xorI (hs bs p) ((hs bs p).tdiv 64)).tmod n := by unfold pk; rw [if_neg e, if_neg f]
      generalize bs.getD (p.tmod bs.length).toNat 0 = u at *
      generalize bs.getD ((p * 7 + 3).tmod bs.length).toNat 0 = v at *
      have v1 : wr (p * 7) = p * 7 := wr_id (by omega) (by omega)
      have v2 : wr (p * 7 + 3) = p * 7 + 3 := wr_id (by omega) (by omega)
      have v3 : wr ((u : Int) * 131) = u * 131 := wr_id (by omega) (by omega)
      have v4 : wr ((v : Int) * 1117) = v * 1117 := wr_id (by omega) (by omega)
      have v5 : wr ((u : Int) * 131 + v * 1117) = u * 131 + v * 1117 := wr_id (by omega) (by omega)
      have v6 : wr (p * 29) = p * 29 := wr_id (by omega) (by omega)
      have v7 : wr ((u : Int) * 131 + v * 1117 + p * 29) = u * 131 + v * 1117 + p * 29 := wr_id (by omega) (by omega)
      have v8 : wr (p.tdiv bs.length) = p.tdiv bs.length := wr_id (by omega) (by omega)
      have v9 : wr (p.tdiv bs.length * 53) = p.tdiv bs.length * 53 := wr_id (by omega) (by omega)
      have va : wr ((u : Int) * 131 + v * 1117 + p * 29 + p.tdiv bs.length * 53) = hs bs p := by rw [hd]; exact wr_id (by omega) (by omega)
      have b := tdiv_bound (p := hs bs p) (l := 64) H.1 (by omega)
      have vb : wr ((hs bs p).tdiv 64) = (hs bs p).tdiv 64 := wr_id (by omega) (by omega)
      simp [F_spec_l20Rd_pick, w1, w2, n1, n2, e1, f, l0, a1, a2, v1, v2, v3, v4, v5, v6, v7, v8, v9, va, vb, hp]
theorem c_odd {bs : List Nat} (hb : ∀ y ∈ bs, y < 256) (hl : bs.length ≤ 2000) {p n : Int} (h0 : 0 ≤ p) (h1 : p < 1000000) (hn : 1 ≤ n) (hn2 : n ≤ 1000000) :
    call lf n_spec_l20Rd_odd [.ref (.st [.sl 0 (bs.map .y), .i p]), .i n] = some (.b (pk bs p n == n - 1), [.st [.sl 0 (bs.map .y), .i (p + 1)]]) := by
  rw [call_k lf n_spec_l20Rd_odd _ (F := F_spec_l20Rd_odd) rfl rfl]
  have n1 : 0 < n := by omega
  have w : wr (n - 1) = n - 1 := wr_id (by omega) (by omega)
  simp [F_spec_l20Rd_odd, n1, w, c_pick hb hl h0 h1 hn]
theorem c_open {bs : List Nat} (hl : bs.length ≤ 1048576) : call lf n_spec_l20Open [.sl 0 (bs.map .y)] = some (.ref (.st [.sl 0 ((bs.take 2000).map .y), .i 0]), []) := by
  rw [call_k lf n_spec_l20Open _ (F := F_spec_l20Open) rfl rfl]
  by_cases h : 2000 < (bs.length : Int)
  · have h2 : (2000 : Int) ≤ bs.length := by omega
    have h3 : ∀ x ∈ bs, (DV.y x).cells.length = 1 := fun _ _ => rfl
    simp [F_spec_l20Open, h, h2, List.map_take]
  · have h2 : bs.take 2000 = bs := List.take_of_length_le (by omega)
    simp [F_spec_l20Open, h, h2]

theorem l_l20Tests {bs : List Nat} (hb : ∀ y ∈ bs, y < 256) (hl : bs.length ≤ 2000) (nn : Int) (j : Nat) : ∀ (p : Int) (ts : List T), 0 ≤ p → p + 2 * j < 900000 → ts.length + j ≤ 100 →
    ∃ us : List T, us.length = ts.length + j ∧
    ex lf F_spec_l20Tests_W0 ⟨[(0, .oad 23 1 0 0), (1, .i nn), (5, .own 3600 ts.length 0 ts.length), (6, .i j)], [(23, [.st [.sl 0 (bs.map .y), .i p]]), (3600, ts.map e2)]⟩ =
      some (.exit 0, ⟨[(0, .oad 23 1 0 0), (1, .i nn), (5, .own 3600 us.length 0 us.length), (6, .i 0)], [(23, [.st [.sl 0 (bs.map .y), .i (p + 2 * j)]]), (3600, us.map e2)]⟩) := by
  induction j with
  | zero =>
    intro p ts h0 h1 h2
    refine ⟨ts, by omega, ?_⟩
    rw [w_spec_l20Tests_0]
    simp [F_spec_l20Tests_L0]
  | succ j ih =>
    intro p ts h0 h1 h2
    have a1 := pk_bound hb h0 (by omega : p ≤ 1000000) (by omega : (1 : Int) ≤ 9)
    have a2 := pk_bound hb (by omega : 0 ≤ p + 1) (by omega : p + 1 ≤ 1000000) (by omega : (1 : Int) ≤ 5)
    have k1 := c_pick hb hl h0 (by omega : p < 1000000) (by omega : (1 : Int) ≤ 9)
    have k2 := c_pick hb hl (by omega : 0 ≤ p + 1) (by omega : p + 1 < 1000000) (by omega : (1 : Int) ≤ 5)
    have w1 : wr (1 + pk bs p 9) = 1 + pk bs p 9 := wr_id (by omega) (by omega)
    have w2 : wr (1 + pk bs (p + 1) 5) = 1 + pk bs (p + 1) 5 := wr_id (by omega) (by omega)
    have w3 : wr (j : Int) = j := wr_id (by omega) (by omega)
    obtain ⟨us, u1, u2⟩ := ih (p + 1 + 1) (ts ++ [(1 + pk bs p 9, 1 + pk bs (p + 1) 5)]) (by omega) (by omega) (by simp; omega)
    refine ⟨us, by rw [u1]; simp; omega, ?_⟩
    rw [w_spec_l20Tests_0]
    have c1 : (0 : Int) < (j : Int) + 1 := by omega
    have c2 : ts.length + 1 ≤ bound := by unfold bound; omega
    simp [e2, Int.natCast_add] at u2
    rw [show p + 2 * ((j + 1 : Nat) : Int) = p + 1 + 1 + 2 * j by omega]
    simp [F_spec_l20Tests_L0, c1, c2, k1, k2, w1, w2, w3, e2, u2]
theorem c_l20Tests {bs : List Nat} (hb : ∀ y ∈ bs, y < 256) (hl : bs.length ≤ 2000) {p n : Int} (h0 : 0 ≤ p) (h1 : p < 800000) (hn : 1 ≤ n) (hn2 : n ≤ 1000000) :
    ∃ (us : List T) (p' : Int), us.length ≤ 5 ∧ p ≤ p' ∧ p' ≤ p + 20 ∧ call lf n_spec_l20Tests [.ref (.st [.sl 0 (bs.map .y), .i p]), .i n] = some (.fr 2 (us.map e2), [.st [.sl 0 (bs.map .y), .i p']]) := by
  have a1 := pk_bound hb h0 (by omega : p ≤ 1000000) (by omega : (1 : Int) ≤ 5)
  have k1 := c_pick hb hl h0 (by omega : p < 1000000) (by omega : (1 : Int) ≤ 5)
  obtain ⟨j, hj⟩ : ∃ j : Nat, 1 + pk bs p 5 = j := ⟨(1 + pk bs p 5).toNat, by omega⟩
  have w1 : wr (j : Int) = j := wr_id (by omega) (by omega)
  obtain ⟨us, u1, u2⟩ := l_l20Tests hb hl n j (p + 1) [] (by omega) (by omega) (by simp; omega)
  simp at u1 u2
  have q0 : 0 ≤ p + 1 + 2 * (j : Int) := by omega
  have k2 := c_odd hb hl q0 (by omega) hn hn2
  generalize hq : p + 1 + 2 * (j : Int) = q at *
  cases ho : (pk bs q n == n - 1) with
  | false =>
    rw [ho] at k2
    refine ⟨us, q + 1, by omega, by omega, by omega, ?_⟩
    rw [call_k lf n_spec_l20Tests _ (F := F_spec_l20Tests) rfl rfl]
    simp [F_spec_l20Tests, k1, hj, w1, u2, k2]
  | true =>
    rw [ho] at k2
    have k3 := c_pick hb hl (by omega : 0 ≤ q + 1) (by omega : q + 1 < 1000000) (by omega : (1 : Int) ≤ 3)
    have a3 := pk_bound hb (by omega : 0 ≤ q + 1) (by omega : q + 1 ≤ 1000000) (by omega : (1 : Int) ≤ 3)
    have k4 := c_pick hb hl (by omega : 0 ≤ q + 1 + 1) (by omega : q + 1 + 1 < 1000000) (by omega : (1 : Int) ≤ 2)
    have a4 := pk_bound hb (by omega : 0 ≤ q + 1 + 1) (by omega : q + 1 + 1 ≤ 1000000) (by omega : (1 : Int) ≤ 2)
    match us, u1 with
    | [], u1 => simp at u1; omega
    | t :: r, u1 =>
      simp [e2, Int.natCast_add] at u2
      generalize pk bs (q + 1) 3 = x3 at *
      generalize pk bs (q + 1 + 1) 2 = x4 at *
      have c3 : x3 = 0 ∨ x3 = 1 ∨ x3 = 2 := by omega
      have c4 : x4 = 0 ∨ x4 = 1 := by omega
      have e0 : ∀ (a b : Int), DV.st [.i a, .i b] = e2 (a, b) := fun _ _ => rfl
      rcases c3 with rfl | rfl | rfl
      · refine ⟨[], q + 1 + 1, by simp, by omega, by omega, ?_⟩
        rw [call_k lf n_spec_l20Tests _ (F := F_spec_l20Tests) rfl rfl]
        simp [F_spec_l20Tests, k1, hj, w1, u2, k2, k3]
      · rcases c4 with rfl | rfl
        · refine ⟨(0, t.2) :: r, q + 1 + 1 + 1, by simp at u1 ⊢; omega, by omega, by omega, ?_⟩
          rw [call_k lf n_spec_l20Tests _ (F := F_spec_l20Tests) rfl rfl]
          simp [F_spec_l20Tests, k1, hj, w1, u2, k2, k3, k4, e2]
        · refine ⟨(10, t.2) :: r, q + 1 + 1 + 1, by simp at u1 ⊢; omega, by omega, by omega, ?_⟩
          rw [call_k lf n_spec_l20Tests _ (F := F_spec_l20Tests) rfl rfl]
          simp [F_spec_l20Tests, k1, hj, w1, u2, k2, k3, k4, e2]
      · rcases c4 with rfl | rfl
        · refine ⟨(t.1, 0) :: r, q + 1 + 1 + 1, by simp at u1 ⊢; omega, by omega, by omega, ?_⟩
          rw [call_k lf n_spec_l20Tests _ (F := F_spec_l20Tests) rfl rfl]
          simp [F_spec_l20Tests, k1, hj, w1, u2, k2, k3, k4, e2]
        · refine ⟨(t.1, 6) :: r, q + 1 + 1 + 1, by simp at u1 ⊢; omega, by omega, by omega, ?_⟩
          rw [call_k lf n_spec_l20Tests _ (F := F_spec_l20Tests) rfl rfl]
          simp [F_spec_l20Tests, k1, hj, w1, u2, k2, k3, k4, e2]

theorem take_b {bs : List Nat} (hb : ∀ y ∈ bs, y < 256) : (∀ y ∈ bs.take 2000, y < 256) ∧ (bs.take 2000).length ≤ 2000 :=
  ⟨fun y h => hb y (List.mem_of_mem_take h), by simp; omega⟩
theorem quo39 {x : Int} (h0 : 0 ≤ x) (h1 : x < 40) : x.tdiv 39 = 0 ∨ x.tdiv 39 = 1 := by
  rw [Int.tdiv_eq_ediv_of_nonneg h0]; omega
end
section
theorem cells_st (cs : List DV) : (DV.st cs).cells = cs := rfl
theorem cells_sl (p : Nat) (es : List DV) : (DV.sl p es).cells = [DV.sl p es] := rfl
theorem cells_i (n : Int) : (DV.i n).cells = [DV.i n] := rfl
theorem cells_y (n : Nat) : (DV.y n).cells = [DV.y n] := rfl
theorem cells_b (n : Bool) : (DV.b n).cells = [DV.b n] := rfl
theorem cells_s (n : List UInt8) : (DV.s n).cells = [DV.s n] := rfl
attribute [-simp] DV.cells
attribute [local simp] cells_st cells_sl cells_i cells_y cells_b cells_s
def row (t : List T) : DV := .sl 1 (t.map e2)
theorem flat_set (m : T) : ∀ {ps : List (List T)} {A : Nat} {t : List T}, ps[A]? = some t → (ps.set A (t ++ [m])).flatten.length = ps.flatten.length + 1
  | [], _, _, h => by simp at h
  | x :: ps, 0, t, h => by simp at h; subst h; simp; omega
  | x :: ps, A + 1, t, h => by
    simp only [List.getElem?_cons_succ] at h
    have := flat_set m h
    simp at this ⊢
    omega
theorem flat_len : ∀ {ps : List (List T)} {A : Nat} {t : List T}, ps[A]? = some t → t.length ≤ ps.flatten.length
  | [], _, _, h => by simp at h
  | x :: ps, 0, t, h => by simp at h; subst h; simp
  | x :: ps, A + 1, t, h => by
    simp only [List.getElem?_cons_succ] at h
    have := flat_len h
    simp only [List.flatten_cons, List.length_append]; omega
end
section
attribute [-simp] DV.cells
attribute [local simp] cells_st cells_sl cells_i cells_y cells_b cells_s
theorem cells_w (x : BitVec 32) : (DV.w x).cells = [DV.w x] := rfl
attribute [local simp] cells_w
end
section
attribute [-simp] DV.cells
attribute [local simp] cells_st cells_sl cells_i cells_y cells_b cells_s cells_w
attribute [-simp] sliceD
def bI (b : Bool) : Int := if b then 1 else 0
end
section
attribute [-simp] DV.cells sliceD
attribute [local simp] cells_st cells_sl cells_i cells_y cells_b cells_s cells_w
theorem pow5 {m : Int} (h1 : 1 ≤ m) (h5 : m ≤ 5) : 2 ≤ 2 ^ m.toNat ∧ 2 ^ m.toNat ≤ 32 ∧ ((2 ^ m.toNat : Nat) : Int) = 2 ^ m.toNat := by
  have c : m = 1 ∨ m = 2 ∨ m = 3 ∨ m = 4 ∨ m = 5 := by omega
  rcases c with rfl | rfl | rfl | rfl | rfl <;> decide
end
section
attribute [-simp] DV.cells sliceD
attribute [local simp] cells_st cells_sl cells_i cells_y cells_b cells_s cells_w
/-- 1 if f holds wherever g does below N, 0 if nowhere, else -1 -/
def fo (f g : Nat → Bool) (N : Nat) : Int := if allTo (fun s => !g s || f s) N then 1 else if allTo (fun s => !g s || !f s) N then 0 else -1
/-- What the states say that agree. -/
def agB (ks : List Int) (s : Nat) : Bool := ag ks (s : Int)
end
section
attribute [-simp] DV.cells sliceD
attribute [local simp] cells_st cells_sl cells_i cells_y cells_b cells_s cells_w
/-- what is known of a term by what is known of its tests -/
def foT (m : Int) (ts : List T) (ks : List Int) : Int := fo (tv ts) (agB ks) (2 ^ m.toNat)
def told (m : Nat) (st so : Nat) : List Int := (List.range m).map fun k => if so.testBit k then bI (st.testBit k) else -1
theorem bI_eq1 (b : Bool) : (bI b == 1) = b := by cases b <;> rfl
end
section
attribute [-simp] DV.cells sliceD
attribute [local simp] cells_st cells_sl cells_i cells_y cells_b cells_s cells_w
def agW : List Int → Nat → BitVec 32 → BitVec 32
  | [], _, w => w
  | k :: r, i, w => agW r (i + 1) (if k = 0 then w &&& ~~~(yesW i) else if k = 1 then w &&& yesW i else w)
end
section
attribute [-simp] DV.cells sliceD
attribute [local simp] cells_st cells_sl cells_i cells_y cells_b cells_s cells_w
theorem div_bI (a s : Nat) : (a : Int) / 2 ^ s % 2 = bI (a.testBit s) := by
  unfold bI
  rw [Nat.testBit_eq_decide_div_mod_eq]
  have : (a : Int) / 2 ^ s % 2 = ((a / 2 ^ s % 2 : Nat) : Int) := by simp
  rw [this]
  by_cases h : a / 2 ^ s % 2 = 1
  · simp [h]
  · have : a / 2 ^ s % 2 = 0 := by omega
    simp [this]
theorem c_impl_hasTest (so k : Nat) (hk : k ≤ 40) : call lf n_impl_hasTest [.i so, .i k] = some (.b (so.testBit k), []) := by
  rw [call_k lf n_impl_hasTest _ (F := F_impl_hasTest) rfl rfl]
  have ni : ¬ (k : Int) < 0 := by omega
  have e : andI (shrI (so : Int) (k : Int)) 1 = bI (so.testBit k) := by
    rw [bit_and, shr1 (by omega) (by omega), Int.toNat_natCast, div_bI]
  simp [F_impl_hasTest, ni, e, bI_eq1]
end
section
attribute [-simp] DV.cells
attribute [local simp] cells_st cells_sl cells_i cells_y cells_b cells_s
def dT (t : T) : T := if t.1 = 2 then (3, 0) else if t.1 = 3 then (2, 0) else t
end
section
attribute [-simp] DV.cells
attribute [local simp] cells_st cells_sl cells_i cells_y cells_b cells_s cells_w
theorem or_fin : ∀ (s : _root_.Fin 32) (k : _root_.Fin 5), orI (s.val : Int) ((2 : Int) ^ k.val) = ((s.val ||| 2 ^ k.val : Nat) : Int) := by decide +kernel
theorem or_nat {s k : Nat} (hs : s < 32) (hk : k < 5) : orI (s : Int) ((2 : Int) ^ k) = ((s ||| 2 ^ k : Nat) : Int) := or_fin ⟨s, hs⟩ ⟨k, hk⟩
end
section
/-- each of the tests once, from those on that some tests are -/
def orS (m : Int) : Nat → List Int → Bool
  | _, [] => true
  | so, a :: r => decide (0 ≤ a ∧ a < m) && !so.testBit a.toNat && orS m (so ||| 2 ^ a.toNat) r
def orOk (m : Int) (os : List Int) : Bool := nOk m && decide ((os.length : Int) = m) && orS m 0 os
def setO : Nat → List Int → Nat
  | so, [] => so
  | so, a :: r => setO (so ||| 2 ^ a.toNat) r
theorem orS_cons {m : Int} {so : Nat} {a : Int} {r : List Int} : orS m so (a :: r) = true ↔ (0 ≤ a ∧ a < m) ∧ so.testBit a.toNat = false ∧ orS m (so ||| 2 ^ a.toNat) r = true := by
  simp [orS, and_assoc]
theorem orOk_iff {m : Int} {os : List Int} : orOk m os = true ↔ (1 ≤ m ∧ m ≤ 5) ∧ (os.length : Int) = m ∧ orS m 0 os = true := by
  rw [orOk, Bool.and_eq_true, Bool.and_eq_true, nOk_iff, decide_eq_true_eq, and_assoc]
theorem or_bit (so a k : Nat) : (so ||| 2 ^ a).testBit k = (so.testBit k || decide (a = k)) := by
  rw [Nat.testBit_or, Nat.testBit_two_pow]
theorem or_lt2 {m so a : Nat} (h : so < 2 ^ m) (ha : a < m) : so ||| 2 ^ a < 2 ^ m := Nat.or_lt_two_pow h (Nat.pow_lt_pow_right (by omega) ha)
def cA (us : List T) (a : Nat) : Int := (us.getD a (0, 0)).1
theorem cA_nn {us : List T} (h : us.all tOk = true) (k : Nat) : 0 ≤ cA us k ∧ (k < us.length → 1 ≤ cA us k) ∧ cA us k ≤ 9 := by
  unfold cA
  by_cases hk : k < us.length
  · have e : us.getD k (0, 0) = us[k] := by simp [List.getD, hk]
    rw [e]
    have := tOk_iff.1 (List.all_eq_true.1 h us[k] (List.getElem_mem hk))
    omega
  · have e : us.getD k (0, 0) = (0, 0) := by simp [List.getD, List.getElem?_eq_none (by omega : us.length ≤ k)]
    rw [e]; simp; omega
end
section
theorem orS_nodup {m : Int} : ∀ {os : List Int} {so : Nat}, orS m so os = true ↔ (∀ o ∈ os, (0 ≤ o ∧ o < m) ∧ so.testBit o.toNat = false) ∧ os.Nodup
  | [], so => by simp [orS]
  | a :: r, so => by
    rw [orS_cons, orS_nodup (os := r), List.nodup_cons]
    constructor
    · rintro ⟨h1, h2, h3, h4⟩
      refine ⟨fun o ho => ?_, fun hm => ?_, h4⟩
      · rcases List.mem_cons.1 ho with rfl | ho
        · exact ⟨h1, h2⟩
        · obtain ⟨q1, q2⟩ := h3 o ho
          rw [or_bit, Bool.or_eq_false_iff] at q2
          exact ⟨q1, q2.1⟩
      · have q := (h3 a hm).2
        rw [or_bit] at q; simp at q
    · rintro ⟨h1, h2, h3⟩
      obtain ⟨a1, a2⟩ := h1 a (by simp)
      refine ⟨a1, a2, fun o ho => ?_, h3⟩
      obtain ⟨q1, q2⟩ := h1 o (by simp [ho])
      refine ⟨q1, ?_⟩
      rw [or_bit, q2, Bool.false_or, decide_eq_false]
      intro e
      have : a = o := by omega
      exact h2 (this ▸ ho)
theorem orS_perm {m : Int} {so : Nat} {p q : List Int} (h : p.Perm q) : orS m so p = orS m so q := by
  rw [Bool.eq_iff_iff, orS_nodup, orS_nodup, h.nodup_iff]
  constructor
  · exact fun k => ⟨fun o ho => k.1 o (h.mem_iff.2 ho), k.2⟩
  · exact fun k => ⟨fun o ho => k.1 o (h.mem_iff.1 ho), k.2⟩
theorem orOk_perm {m : Int} {p q : List Int} (h : p.Perm q) : orOk m p = orOk m q := by
  unfold orOk
  rw [orS_perm h, h.length_eq]
def rng (n : Nat) : List Int := (List.range n).map fun (k : Nat) => (k : Int)
theorem rng_len (n : Nat) : (rng n).length = n := by simp [rng]
theorem rng_succ (n : Nat) : rng (n + 1) = rng n ++ [(n : Int)] := by simp [rng, List.range_succ]
theorem mem_rng {n : Nat} {o : Int} : o ∈ rng n ↔ 0 ≤ o ∧ o < n := by
  unfold rng
  rw [List.mem_map]
  constructor
  · rintro ⟨k, h, rfl⟩; have := List.mem_range.1 h; omega
  · intro h; exact ⟨o.toNat, List.mem_range.2 (by omega), by omega⟩
theorem rng_ok {m : Int} (h : 1 ≤ m ∧ m ≤ 5) : orOk m (rng m.toNat) = true := by
  rw [orOk_iff, orS_nodup]
  refine ⟨h, by rw [rng_len]; omega, fun o ho => ?_, ?_⟩
  · have := mem_rng.1 ho
    exact ⟨by omega, by simp⟩
  · unfold rng
    rw [List.nodup_iff_pairwise_ne, List.pairwise_map]
    exact List.Pairwise.imp (fun {a b} (hab : a ≠ b) h => hab (Int.ofNat_inj.1 h)) (List.nodup_iff_pairwise_ne.1 List.nodup_range)
theorem perm_ok {m : Int} {os : List Int} (h : 1 ≤ m ∧ m ≤ 5) (p : os.Perm (rng m.toNat)) : orOk m os = true := by rw [orOk_perm p]; exact rng_ok h
end
section
def hkn (m : Nat) (ks : List Int) (so : Nat) : Prop := ∀ k, k < m → (ks[k]? = some (-1) ↔ so.testBit k = false)
def non (m : Nat) : List Int := List.replicate m (-1)
end
section
attribute [-simp] DV.cells sliceD
attribute [local simp] cells_st cells_sl cells_i cells_y cells_b cells_s cells_w
theorem hasTest_i {so : Nat} {a : Int} (h0 : 0 ≤ a) (h5 : a < 5) : call lf n_impl_hasTest [.i so, .i a] = some (.b (so.testBit a.toNat), []) := by
  have := c_impl_hasTest so a.toNat (by omega)
  rw [Int.toNat_of_nonneg h0] at this
  exact this
theorem or_i {so : Nat} {a : Int} (hs : so < 32) (h0 : 0 ≤ a) (h5 : a < 5) : orI (so : Int) (shlI 1 a) = ((so ||| 2 ^ a.toNat : Nat) : Int) := by
  rw [shl1 h0 (by omega)]
  exact or_nat hs (by omega)
theorem pow_le5 {m : Int} (h : 1 ≤ m ∧ m ≤ 5) : 2 ^ m.toNat ≤ 32 := (pow5 h.1 h.2).2.1
theorem l_impl_OrderOk {m : Int} (hm : 1 ≤ m ∧ m ≤ 5) (n : Int) (hb : n < 1099511627776) (es : List DV) (rest : List Int) : ∀ (k : Int) (so : Nat), so < 2 ^ m.toNat → 0 ≤ k → k + (rest.map DV.i).length = n → es.drop k.toNat = rest.map .i →
    ex lf F_impl_OrderOk_W0 ⟨[(0, .i m), (5, .i so), (17, .sl 0 es), (18, .i n), (19, .i k)], []⟩ =
    if orS m so rest = true then some (.exit 0, ⟨[(0, .i m), (5, .i (setO so rest : Nat)), (17, .sl 0 es), (18, .i n), (19, .i n)], []⟩) else some (.ret, ⟨[(4, .b false)], []⟩) := by
  have p5 := pow_le5 hm
  induction rest with
  | nil =>
    intro k so hs h0 hn hd
    rw [w_impl_OrderOk_0]
    have hk : k = n := by simpa using hn
    simp [F_impl_OrderOk_L0, hk, orS, setO]
  | cons a rest ih =>
    intro k so hs h0 hn hd
    obtain ⟨q1, q2, q3, q4, q5, q6⟩ := stp h0 hn hb hd
    have w : wr (m - 1) = m - 1 := wr_id (by omega) (by omega)
    rw [w_impl_OrderOk_0]
    by_cases ha : 0 ≤ a ∧ a < m
    · have e1 : decide (0 ≤ a ∧ a ≤ m - 1) = true := decide_eq_true (by omega)
      have e2 : decide (0 ≤ a ∧ a < m) = true := decide_eq_true ha
      have H := hasTest_i (so := so) ha.1 (by omega)
      have n0 : ¬ a < 0 := by omega
      have o := or_i (so := so) (by omega) ha.1 (by omega : a < 5)
      have ih := ih (k + 1) (so ||| 2 ^ a.toNat) (or_lt2 hs (by omega)) q4 q5 q6
      simp only [orS, e2, Bool.true_and, setO]
      cases hb : so.testBit a.toNat with
      | true =>
        rw [hb] at H
        simp [F_impl_OrderOk_L0, q1, q2, q3, w, c_impl_isWithin, e1, H]
      | false =>
        rw [hb] at H
        simp [F_impl_OrderOk_L0, q1, q2, q3, w, c_impl_isWithin, e1, H, n0, o, ih]
    · have e1 : decide (0 ≤ a ∧ a ≤ m - 1) = false := decide_eq_false (by omega)
      have e2 : decide (0 ≤ a ∧ a < m) = false := decide_eq_false ha
      simp only [orS, e2, Bool.false_and]
      simp [F_impl_OrderOk_L0, q1, q2, q3, w, c_impl_isWithin, e1]
theorem c_impl_OrderOk (m : Int) (os : List Int) (hb : (os.length : Int) < 1099511627776) : call lf n_impl_OrderOk [.i m, .sl 0 (os.map .i)] = some (.b (orOk m os), []) := by
  rw [call_k lf n_impl_OrderOk _ (F := F_impl_OrderOk) rfl rfl]
  unfold orOk
  cases h1 : nOk m with
  | false => simp [F_impl_OrderOk, c_impl_manyOk, h1]
  | true =>
    by_cases h2 : (os.length : Int) = m
    · have L := l_impl_OrderOk (nOk_iff.1 h1) os.length hb (os.map .i) os 0 0 (Nat.pow_pos (by omega)) (by omega) (by simp) (by simp)
      simp only [Int.natCast_zero] at L
      cases h3 : orS m 0 os <;> rw [h3] at L <;> simp at L <;> simp [F_impl_OrderOk, c_impl_manyOk, h1, h2, L, h3] <;> (subst h2; simp [L])
    · have y : ((os.length : Int) != m) = true := bne_iff_ne.2 h2
      simp [F_impl_OrderOk, c_impl_manyOk, h1, y, h2]
end
section
def rwOk (row : Int) : Bool := decide (0 ≤ row ∧ row ≤ 1)
/-- the chance of a test to end a row -/
def eA (us : List T) (row : Int) (a : Nat) : Int := if row = 0 then 6 - (us.getD a (0, 0)).2 else (us.getD a (0, 0)).2
def rA (us : List T) (row : Int) : Int → List Int → Int
  | _, [] => 0
  | on, a :: r => cA us a.toNat * on * 6 ^ (r.length + 1) + rA us row (on * (6 - eA us row a.toNat)) r
theorem eA_bd {us : List T} (h : us.all tOk = true) {row : Int} {a : Nat} (ha : a < us.length) : 1 ≤ eA us row a ∧ eA us row a ≤ 5 := by
  have e : us.getD a (0, 0) = us[a] := by simp [List.getD, ha]
  have := tOk_iff.1 (List.all_eq_true.1 h us[a] (List.getElem_mem ha))
  unfold eA
  rw [e]
  split <;> omega
end
section
/-- the one costs no more for its chance to end than the other -/
def rLe (us : List T) (row : Int) (a b : Int) : Bool := decide (cA us a.toNat * eA us row b.toNat ≤ cA us b.toNat * eA us row a.toNat)
def insR (us : List T) (row : Int) (k : Int) : List Int → List Int
  | [] => [k]
  | o :: r => if rLe us row o k = true then o :: insR us row k r else k :: o :: r
def rO (us : List T) (row : Int) : Nat → List Int
  | 0 => []
  | n + 1 => insR us row (n : Int) (rO us row n)
theorem insR_perm (us : List T) (row k : Int) : ∀ l : List Int, (insR us row k l).Perm (k :: l)
  | [] => List.Perm.refl _
  | o :: r => by
    simp only [insR]
    split
    · exact ((insR_perm us row k r).cons o).trans (List.Perm.swap k o r)
    · exact List.Perm.refl _
theorem rO_perm (us : List T) (row : Int) : ∀ n : Nat, (rO us row n).Perm (rng n)
  | 0 => List.Perm.refl _
  | n + 1 => by
    rw [rng_succ]
    exact (insR_perm us row n (rO us row n)).trans (((rO_perm us row n).cons (n : Int)).trans (List.perm_append_comm (l₁ := [(n : Int)])))
theorem rO_mem {us : List T} {row : Int} {n : Nat} {o : Int} (h : o ∈ rO us row n) : 0 ≤ o ∧ o < n := mem_rng.1 ((rO_perm us row n).mem_iff.1 h)
theorem rO_len (us : List T) (row : Int) (n : Nat) : (rO us row n).length = n := by rw [(rO_perm us row n).length_eq, rng_len]
theorem rO_ok {us : List T} (h : tsOk us = true) (row : Int) : orOk us.length (rO us row us.length) = true := by
  have h' := tsOk_iff.1 h
  exact perm_ok (m := us.length) (by omega) (by rw [Int.toNat_natCast]; exact rO_perm us row us.length)
theorem rLe_trans {us : List T} (h : us.all tOk = true) {row a b c : Int} (ha : a.toNat < us.length) (hb : b.toNat < us.length) (hc : c.toNat < us.length)
    (h1 : rLe us row a b = true) (h2 : rLe us row b c = true) : rLe us row a c = true := by
  unfold rLe at *
  rw [decide_eq_true_eq] at *
  have ea := eA_bd h (row := row) ha
  have eb := eA_bd h (row := row) hb
  have ec := eA_bd h (row := row) hc
  refine Int.le_of_mul_le_mul_right (a := eA us row b.toNat) ?_ (by omega)
  have q1 := Int.mul_le_mul_of_nonneg_right h1 (show 0 ≤ eA us row c.toNat by omega)
  have q2 := Int.mul_le_mul_of_nonneg_right h2 (show 0 ≤ eA us row a.toNat by omega)
  revert q1 q2
  generalize cA us a.toNat = ca
  generalize cA us b.toNat = cb
  generalize cA us c.toNat = cc
  generalize eA us row a.toNat = x
  generalize eA us row b.toNat = y
  generalize eA us row c.toNat = z
  intro q1 q2
  have e1 : ca * z * y = ca * y * z := by rw [Int.mul_assoc, Int.mul_comm z, Int.mul_assoc]
  have e2 : cb * x * z = cb * z * x := by rw [Int.mul_assoc, Int.mul_comm x, Int.mul_assoc]
  have e3 : cc * x * y = cc * y * x := by rw [Int.mul_assoc, Int.mul_comm x, Int.mul_assoc]
  omega
theorem rLe_total {us : List T} {row a b : Int} (h : rLe us row a b = false) : rLe us row b a = true := by
  unfold rLe at *
  rw [decide_eq_true_eq]
  rw [decide_eq_false_iff_not] at h
  omega
theorem insR_sorted {us : List T} (h : us.all tOk = true) {row k : Int} (hk : k.toNat < us.length) : ∀ {l : List Int}, (∀ o ∈ l, o.toNat < us.length) → l.Pairwise (fun a b => rLe us row a b = true) → (insR us row k l).Pairwise (fun a b => rLe us row a b = true)
  | [], _, _ => List.pairwise_singleton _ _
  | o :: r, hm, hp => by
    obtain ⟨p1, p2⟩ := List.pairwise_cons.1 hp
    have ho := hm o (List.mem_cons_self ..)
    have hr : ∀ x ∈ r, x.toNat < us.length := fun x hx => hm x (List.mem_cons_of_mem _ hx)
    simp only [insR]
    by_cases hc : rLe us row o k = true
    · rw [if_pos hc]
      refine List.pairwise_cons.2 ⟨fun x hx => ?_, insR_sorted h hk hr p2⟩
      rcases List.mem_cons.1 ((insR_perm us row k r).mem_iff.1 hx) with rfl | hx
      · exact hc
      · exact p1 x hx
    · rw [if_neg hc]
      have hc' : rLe us row k o = true := rLe_total (by simpa using hc)
      refine List.pairwise_cons.2 ⟨fun x hx => ?_, hp⟩
      rcases List.mem_cons.1 hx with rfl | hx
      · exact hc'
      · exact rLe_trans h hk ho (hr x hx) hc' (p1 x hx)
theorem rO_sorted {us : List T} (h : us.all tOk = true) (row : Int) : ∀ n : Nat, n ≤ us.length → (rO us row n).Pairwise (fun a b => rLe us row a b = true)
  | 0, _ => List.Pairwise.nil
  | n + 1, hn => by
    refine insR_sorted h (by omega) (fun o ho => ?_) (rO_sorted h row n (by omega))
    have := rO_mem ho
    omega
end
section
theorem cA_other (us : List T) (a : Nat) : cA (us.map other) a = cA us a := by
  unfold cA
  by_cases h : a < us.length
  · simp [List.getD, h, other]
  · simp [List.getD, h]
theorem eA_other {us : List T} {row : Int} (hr : row = 0 ∨ row = 1) {a : Nat} (ha : a < us.length) : eA (us.map other) (1 - row) a = eA us row a := by
  have e : ((us.map other).getD a (0, 0)).2 = 6 - (us.getD a (0, 0)).2 := by simp [List.getD, ha, other]
  unfold eA
  rw [e]
  rcases hr with rfl | rfl
  · rw [if_neg (by omega), if_pos rfl]
  · rw [if_pos (by omega), if_neg (by omega)]; omega
theorem insR_congr {us vs : List T} {row rw' k : Int} : ∀ {l : List Int}, (∀ o ∈ l, rLe us row o k = rLe vs rw' o k) → insR us row k l = insR vs rw' k l
  | [], _ => rfl
  | o :: r, h => by
    simp only [insR]
    rw [h o (List.mem_cons_self ..), insR_congr fun x hx => h x (List.mem_cons_of_mem _ hx)]
theorem rO_other {us : List T} {row : Int} (hr : row = 0 ∨ row = 1) : ∀ n : Nat, n ≤ us.length → rO (us.map other) (1 - row) n = rO us row n
  | 0, _ => rfl
  | n + 1, hn => by
    simp only [rO]
    rw [rO_other hr n (by omega)]
    refine insR_congr fun o ho => ?_
    have := rO_mem ho
    unfold rLe
    rw [cA_other, cA_other, eA_other hr (by omega), eA_other hr (by omega)]
end
section
attribute [-simp] DV.cells sliceD
attribute [local simp] cells_st cells_sl cells_i cells_y cells_b cells_s cells_w
theorem cA_at {us : List T} {a : Int} (h0 : 0 ≤ a) (h1 : a < us.length) : ∃ c q : Int, atI (us.map e2) a = some (.st [.i c, .i q]) ∧ c = cA us a.toNat ∧ us.getD a.toNat (0, 0) = (c, q) := by
  have hl : a.toNat < us.length := by omega
  have e : us.getD a.toNat (0, 0) = us[a.toNat] := by simp [List.getD, hl]
  refine ⟨us[a.toNat].1, us[a.toNat].2, ?_, ?_, e⟩
  · simp only [atI, if_pos h0]
    show (us.map e2)[a.toNat]? = _
    simp [hl, e2]
  · unfold cA; rw [e]
end
section
attribute [-simp] DV.cells sliceD
attribute [local simp] cells_st cells_sl cells_i cells_y cells_b cells_s cells_w
theorem p6 : ∀ {n : Nat}, n ≤ 5 → (1 : Int) ≤ 6 ^ n ∧ (6 : Int) ^ n ≤ 7776 := by
  intro n hn
  have : n = 0 ∨ n = 1 ∨ n = 2 ∨ n = 3 ∨ n = 4 ∨ n = 5 := by omega
  rcases this with rfl | rfl | rfl | rfl | rfl | rfl <;> decide
theorem c_spec_l1Power {n : Nat} (h : n ≤ 5) : call lf n_spec_l1Power [.i n] = some (.i (6 ^ n), []) := by
  have L := loop_count (lf := lf) (L := F_spec_l1Power_L0) n (fun i => ⟨[(0, .i n), (3, .i (6 ^ i)), (4, .i i)], []⟩) (x := .exit 0) (R := ⟨[(0, .i n), (3, .i (6 ^ n)), (4, .i n)], []⟩) (fun i hi => by
    have p := p6 (n := i) (by omega)
    have w1 : wr ((i : Int) + 1) = i + 1 := wr_id (by omega) (by omega)
    have w2 : wr ((6 : Int) ^ i * 6) = 6 ^ (i + 1) := by rw [wr_id (by omega) (by omega), Int.pow_succ]
    simp [F_spec_l1Power_L0, hi, w1, w2]) (by simp [F_spec_l1Power_L0]) (by simp)
  have L' : ex lf F_spec_l1Power_W0 ⟨[(0, .i n), (3, .i 1), (4, .i 0)], []⟩ = some (.exit 0, ⟨[(0, .i n), (3, .i (6 ^ n)), (4, .i n)], []⟩) := L
  rw [call_k lf n_spec_l1Power _ (F := F_spec_l1Power) rfl rfl]
  simp [F_spec_l1Power, L']
def stW (us : List T) (tab : Nat) (os : List Int) (k : Nat) (ks : List Int) (w a sum sd : Int) : LS :=
  ⟨[(0, .sl 0 (us.map e2)), (1, .i tab), (2, .sl 0 (os.map .i)), (3, .i k), (4, .sl 0 (ks.map .i)), (5, .i w), (13, .i a), (14, .i sum), (15, .i sd)], []⟩
end
section
attribute [-simp] DV.cells
attribute [local simp] sliceD cells_st cells_sl cells_i cells_y cells_b cells_s cells_w
theorem c_spec_l5Ends (c q row : Int) (hq : 1 ≤ q ∧ q ≤ 5) : call lf n_spec_l5Ends [.st [.i c, .i q], .i row] = some (.i (if row = 0 then 6 - q else q), []) := by
  have w1 : wr (6 - q) = 6 - q := wr_id (by omega) (by omega)
  rw [call_k lf n_spec_l5Ends _ (F := F_spec_l5Ends) rfl rfl]
  by_cases h : row = 0
  · simp [F_spec_l5Ends, h, w1]
  · have h' : (row == 0) = false := by simp [h]
    simp [F_spec_l5Ends, h, h']
def raOk (us : List T) (os : List Int) (row : Int) : Bool := tsOk us && orOk us.length os && rwOk row
def raOf (us : List T) (os : List Int) (row : Int) : Int := if raOk us os row then rA us row 1 os else -1
theorem p6le {i j : Nat} (h : i + j ≤ 5) {on : Int} (h0 : 0 ≤ on) (h1 : on ≤ 6 ^ i) : 0 ≤ on * 6 ^ j ∧ on * 6 ^ j ≤ 7776 := by
  have pj := p6 (n := j) (by omega)
  have q := (p6 h).2
  rw [Int.pow_add] at q
  have := Int.mul_le_mul_of_nonneg_right h1 (show (0 : Int) ≤ 6 ^ j by omega)
  have := Int.mul_nonneg h0 (show (0 : Int) ≤ 6 ^ j by omega)
  omega
theorem eA_call {us : List T} (h : us.all tOk = true) {row a : Int} (h0 : 0 ≤ a) (h1 : a < us.length) : ∃ c q : Int, atI (us.map e2) a = some (.st [.i c, .i q]) ∧ c = cA us a.toNat ∧ call lf n_spec_l5Ends [.st [.i c, .i q], .i row] = some (.i (eA us row a.toNat), []) := by
  obtain ⟨c, q, c1, c2, c3⟩ := cA_at (us := us) h0 h1
  refine ⟨c, q, c1, c2, ?_⟩
  have e : us.getD a.toNat (0, 0) = us[a.toNat] := by simp [List.getD, show a.toNat < us.length by omega]
  have tq := tOk_iff.1 (List.all_eq_true.1 h us[a.toNat] (List.getElem_mem (by omega)))
  rw [← e, c3] at tq
  rw [c_spec_l5Ends c q row tq.2]
  unfold eA
  rw [c3]
end
section
attribute [-simp] DV.cells
attribute [local simp] sliceD cells_st cells_sl cells_i cells_y cells_b cells_s cells_w
def insPos (us : List T) (row k : Int) : List Int → Nat
  | [] => 0
  | o :: r => if rLe us row o k = true then insPos us row k r + 1 else 0
theorem insPos_le (us : List T) (row k : Int) : ∀ l : List Int, insPos us row k l ≤ l.length
  | [] => Nat.le_refl _
  | o :: r => by
    have := insPos_le us row k r
    simp only [insPos, List.length_cons]
    split <;> omega
theorem insR_pos (us : List T) (row k : Int) : ∀ l : List Int, insR us row k l = l.take (insPos us row k l) ++ k :: l.drop (insPos us row k l)
  | [] => rfl
  | o :: r => by
    simp only [insR, insPos]
    by_cases h : rLe us row o k = true
    · rw [if_pos h, if_pos h, insR_pos us row k r]; simp
    · rw [if_neg h, if_neg h]; simp
def stIn (us : List T) (row : Int) (K i : Nat) (L : List Int) (a : Nat) : LS := ⟨[(0, .sl 0 (us.map e2)), (1, .i row), (5, .own K L.length 0 L.length), (6, .i i), (7, .i a)], [(K, L.map .i)]⟩
set_option maxHeartbeats 4000000 in
theorem ratio_inner {us : List T} (h : tsOk us = true) (row : Int) {i : Nat} (hi : i < us.length) (L : List Int) (hL : L.length ≤ 5) (hm : ∀ o ∈ L, 0 ≤ o ∧ o < us.length) : ∀ (r p : List Int), L = p ++ r →
    ex lf F_spec_RatioOrder_W1 (stIn us row 4616 i L p.length) = some (.exit 2, stIn us row 4616 i L (p.length + insPos us row i r)) := by
  have h' := tsOk_iff.1 h
  intro r
  induction r with
  | nil =>
    intro p hp
    have e : p.length = L.length := by rw [hp]; simp
    rw [w_spec_RatioOrder_1, e]
    simp [stIn, F_spec_RatioOrder_L1, insPos]
  | cons o r ih =>
    intro p hp
    have lp : p.length < L.length := by rw [hp]; simp
    have ho := hm o (by rw [hp]; simp)
    have ao : atI (L.map DV.i) (p.length : Nat) = some (.i o) := by
      simp only [atI, if_pos (Int.natCast_nonneg _)]
      show (L.map DV.i)[((p.length : Nat) : Int).toNat]? = _
      rw [hp, Int.toNat_natCast]; simp
    have an : atN (L.map DV.i) p.length = some (.i o) := by
      show (L.map DV.i)[p.length]? = _
      rw [hp]; simp
    obtain ⟨c1, q1, x1, x2, x3⟩ := eA_call h'.2 (row := row) ho.1 ho.2
    obtain ⟨c2, q2, y1, y2, y3⟩ := eA_call h'.2 (row := row) (a := (i : Int)) (by omega) (by omega)
    rw [Int.toNat_natCast] at y2 y3
    have b1 := cA_nn h'.2 o.toNat
    have b2 := cA_nn h'.2 i
    have e1 := eA_bd h'.2 (row := row) (a := o.toNat) (by omega)
    have e2' := eA_bd h'.2 (row := row) (a := i) hi
    have m1 : 0 ≤ c1 * eA us row i ∧ c1 * eA us row i ≤ 9 * 5 := ⟨Int.mul_nonneg (by omega) (by omega), Int.mul_le_mul (by omega) (by omega) (by omega) (by omega)⟩
    have m2 : 0 ≤ c2 * eA us row o.toNat ∧ c2 * eA us row o.toNat ≤ 9 * 5 := ⟨Int.mul_nonneg (by omega) (by omega), Int.mul_le_mul (by omega) (by omega) (by omega) (by omega)⟩
    have w1 : wr (c1 * eA us row i) = c1 * eA us row i := wr_id (by omega) (by omega)
    have w2 : wr (c2 * eA us row o.toNat) = c2 * eA us row o.toNat := wr_id (by omega) (by omega)
    have w3 : wr ((p.length : Int) + 1) = ((p.length + 1 : Nat) : Int) := by rw [wr_id (by omega) (by omega)]; omega
    have rl : rLe us row o i = decide (c1 * eA us row i ≤ c2 * eA us row o.toNat) := by unfold rLe; rw [x2, y2, Int.toNat_natCast]
    have ho1 := ho.1
    have ho2 := ho.2
    have I := ih (p ++ [o]) (by rw [hp]; simp)
    rw [List.length_append, List.length_singleton] at I
    rw [w_spec_RatioOrder_1]
    by_cases hc : c1 * eA us row i ≤ c2 * eA us row o.toNat
    · have hp1 : insPos us row i (o :: r) = insPos us row i r + 1 := by simp only [insPos]; rw [if_pos (by rw [rl]; exact decide_eq_true hc)]
      rw [hp1, show p.length + (insPos us row i r + 1) = p.length + 1 + insPos us row i r by omega]
      unfold stIn at *
      simp [F_spec_RatioOrder_L1, lp, ao, an, ho1, ho2, hi, x1, x3, y1, y3, w1, w2, w3, hc, I, -Int.natCast_add]
    · have hp0 : insPos us row i (o :: r) = 0 := by simp only [insPos]; rw [if_neg (by rw [rl]; simpa using hc)]
      rw [hp0]
      unfold stIn
      simp [F_spec_RatioOrder_L1, lp, ao, an, ho1, ho2, hi, x1, x3, y1, y3, w1, w2, w3, hc, -Int.natCast_add]
end
section
attribute [-simp] DV.cells
attribute [local simp] sliceD cells_st cells_sl cells_i cells_y cells_b cells_s cells_w
def roL (us : List T) (row : Int) : List Int := if tsOk us && rwOk row then rO us row us.length else []
def stOu (us : List T) (row : Int) (K : Nat) (L : List Int) (i : Nat) : LS := ⟨[(0, .sl 0 (us.map e2)), (1, .i row), (5, .own K L.length 0 L.length), (6, .i i)], [(K, L.map .i)]⟩
set_option maxHeartbeats 4000000 in
theorem ratio_outer {us : List T} (h : tsOk us = true) {row : Int} (hr : rwOk row = true) (j : Nat) : ∀ (i K : Nat), (K = 4616 ∨ K = 32264) → i + j = us.length →
    ex lf F_spec_RatioOrder_W0 (stOu us row K (rO us row i) i) = some (.exit 0, stOu us row 4616 (rO us row us.length) us.length) := by
  have h' := tsOk_iff.1 h
  have C1 := c_spec_TestsOk us (by omega)
  rw [h] at C1
  have d : decide (0 ≤ row ∧ row ≤ 1) = true := hr
  induction j with
  | zero =>
    intro i K hK hi
    have e : i = us.length := by omega
    subst e
    rw [w_spec_RatioOrder_0]
    rcases hK with rfl | rfl <;> simp [stOu, F_spec_RatioOrder_L0]
  | succ j ih =>
    intro i K hK hi
    have k2 := ih (i + 1) 32264 (.inr rfl) (by omega)
    have hlt : i < us.length := by omega
    have ll := rO_len us row i
    have I := ratio_inner h row hlt (rO us row i) (by omega) (fun o ho => by have := rO_mem ho; omega) (rO us row i) [] rfl
    have pl := insPos_le us row i (rO us row i)
    have e : rO us row (i + 1) = (rO us row i).take (insPos us row i (rO us row i)) ++ (i : Int) :: (rO us row i).drop (insPos us row i (rO us row i)) := insR_pos us row i (rO us row i)
    rw [e] at k2
    rw [List.length_nil, Nat.zero_add] at I
    generalize insPos us row i (rO us row i) = a at *
    generalize rO us row i = L at *
    obtain ⟨x, y, rfl, rfl⟩ : ∃ x y, L = x ++ y ∧ x.length = a := ⟨L.take a, L.drop a, (List.take_append_drop a L).symm, by simp; omega⟩
    have s1 : (x ++ y).take x.length = x := by simp
    have s2 : (x ++ y).drop x.length = y := by simp
    rw [s1, s2] at k2
    have lxy : x.length + y.length = i := by simpa using ll
    have w1 : wr ((i : Int) + 1) = ((i + 1 : Nat) : Int) := by rw [wr_id (by omega) (by omega)]; omega
    have c1 : x.length ≤ bound := by unfold bound; omega
    have c2 : x.length + 1 ≤ bound := by unfold bound; omega
    have c3 : i + 1 ≤ bound := by unfold bound; omega
    have xi : x.length ≤ i := by omega
    have t1 : ((x ++ y).map DV.i).take x.length = x.map .i := by simp
    have t2 : ((x ++ y).map DV.i).drop x.length = y.map .i := by simp
    have t4 : List.take i ((x ++ y).map DV.i) = (x ++ y).map DV.i := List.take_of_length_le (by simp; omega)
    have hL : ((x ++ y).map DV.i).length = i := by simp; omega
    have e1 : x.length + 1 + y.length = i + 1 := by omega
    have e3 : x.length + (y.length + 1) = i + 1 := by omega
    have n0 : ¬ (i < x.length) := by omega
    unfold stOu stIn at *
    rw [ll] at I ⊢
    simp only [Int.natCast_zero] at I
    rw [w_spec_RatioOrder_0]
    simp only [List.length_append, List.length_cons, List.map_append, List.map_cons, e3] at k2
    generalize (x ++ y).map DV.i = M at *
    rcases hK with rfl | rfl <;> simp [F_spec_RatioOrder_L0, hlt, C1, d, c_spec_l1In, I, w1, hL, t1, t2, t4, c1, c2, c3, xi, e1, k2, -Int.natCast_add]
theorem c_spec_RatioOrder (us : List T) (row : Int) (ha : (us.length : Int) < 1099511627776) : call lf n_spec_RatioOrder [.sl 0 (us.map e2), .i row] = some (.fr 1 ((roL us row).map .i), []) := by
  rw [call_k lf n_spec_RatioOrder _ (F := F_spec_RatioOrder) rfl rfl]
  unfold roL
  by_cases h : (tsOk us && rwOk row) = true
  · rw [if_pos h]
    rw [Bool.and_eq_true] at h
    have L := ratio_outer h.1 h.2 us.length 0 4616 (.inl rfl) (by omega)
    unfold stOu at L
    have z : (rO us row 0).map DV.i = [] := rfl
    have z' : (rO us row 0).length = 0 := rfl
    rw [z, z'] at L
    simp only [Int.natCast_zero] at L
    have ll := rO_len us row us.length
    have tk : List.take us.length ((rO us row us.length).map DV.i) = (rO us row us.length).map .i := List.take_of_length_le (by simp [ll])
    rw [ll] at L
    simp [F_spec_RatioOrder, L, ll, tk]
  · rw [if_neg h]
    have C1 := c_spec_TestsOk us ha
    have L' : ex lf F_spec_RatioOrder_W0 ⟨[(0, .sl 0 (us.map e2)), (1, .i row), (5, .own 4616 0 0 0), (6, .i 0)], [(4616, [])]⟩ = some (.exit 0, ⟨[(0, .sl 0 (us.map e2)), (1, .i row), (5, .own 4616 0 0 0), (6, .i 0)], [(4616, [])]⟩) := by
      rw [w_spec_RatioOrder_0]
      by_cases h0 : 0 < us.length
      · cases h1 : tsOk us with
        | false => rw [h1] at C1; simp [F_spec_RatioOrder_L0, h0, C1]
        | true =>
          rw [h1] at C1
          have h2 : decide (0 ≤ row ∧ row ≤ 1) = false := by
            cases h2 : decide (0 ≤ row ∧ row ≤ 1) with
            | false => rfl
            | true => exact absurd (by rw [Bool.and_eq_true]; exact ⟨h1, h2⟩) h
          simp [F_spec_RatioOrder_L0, h0, C1, c_spec_l1In, h2]
      · simp [F_spec_RatioOrder_L0, h0]
    simp [F_spec_RatioOrder, L']
end
section
attribute [-simp] DV.cells
attribute [local simp] sliceD cells_st cells_sl cells_i cells_y cells_b cells_s cells_w
theorem c_impl_rowOk (row : Int) : call lf n_impl_rowOk [.i row] = some (.b (rwOk row), []) := by
  rw [call_k lf n_impl_rowOk _ (F := F_impl_rowOk) rfl rfl]
  have e : rwOk row = (row == 0 || row == 1) := by
    unfold rwOk
    by_cases h0 : row = 0
    · subst h0; rfl
    · by_cases h1 : row = 1
      · subst h1; rfl
      · have n0 : (row == 0) = false := beq_eq_false_iff_ne.2 h0
        have n1 : (row == 1) = false := beq_eq_false_iff_ne.2 h1
        rw [n0, n1]
        exact decide_eq_false (by omega)
  rw [e]
  cases h0 : (row == 0) with
  | true => simp [F_impl_rowOk, h0]
  | false => simp [F_impl_rowOk, h0]
theorem c_impl_endChance (c q row : Int) (hq : 1 ≤ q ∧ q ≤ 5) : call lf n_impl_endChance [.st [.i c, .i q], .i row] = some (.i (if row = 0 then 6 - q else q), []) := by
  have w1 : wr (6 - q) = 6 - q := wr_id (by omega) (by omega)
  rw [call_k lf n_impl_endChance _ (F := F_impl_endChance) rfl rfl]
  by_cases h : row = 0
  · simp [F_impl_endChance, h, w1]
  · have h' : (row == 0) = false := by simp [h]
    simp [F_impl_endChance, h, h']
theorem c_impl_wholeOf {n : Nat} (hn : n ≤ 5) : call lf n_impl_wholeOf [.i n] = some (.i (6 ^ n), []) := by
  rw [call_k lf n_impl_wholeOf _ (F := F_impl_wholeOf) rfl rfl]
  have L := loop_count (lf := lf) (L := F_impl_wholeOf_L0) n (fun i => ⟨[(3, .i (6 ^ i)), (4, .i n), (5, .i i)], []⟩) (x := .exit 0) (R := ⟨[(3, .i (6 ^ n)), (4, .i n), (5, .i n)], []⟩) (fun i hi => by
    have p := p6 (n := i) (by omega)
    have w1 : wr ((i : Int) + 1) = i + 1 := wr_id (by omega) (by omega)
    have w2 : wr ((6 : Int) ^ i * 6) = 6 ^ i * 6 := wr_id (by omega) (by omega)
    simp [F_impl_wholeOf_L0, hi, w1, w2, Int.pow_succ]) (by simp [F_impl_wholeOf_L0]) (by simp)
  have L' : ex lf F_impl_wholeOf_W0 ⟨[(3, .i 1), (4, .i n), (5, .i 0)], []⟩ = some (.exit 0, ⟨[(3, .i (6 ^ n)), (4, .i n), (5, .i n)], []⟩) := L
  simp [F_impl_wholeOf, L']
set_option maxHeartbeats 4000000 in
theorem eA_calli {us : List T} (h : us.all tOk = true) {row a : Int} (h0 : 0 ≤ a) (h1 : a < us.length) : ∃ c q : Int, atI (us.map e2) a = some (.st [.i c, .i q]) ∧ c = cA us a.toNat ∧ call lf n_impl_endChance [.st [.i c, .i q], .i row] = some (.i (eA us row a.toNat), []) := by
  obtain ⟨c, q, c1, c2, c3⟩ := cA_at (us := us) h0 h1
  refine ⟨c, q, c1, c2, ?_⟩
  have e : us.getD a.toNat (0, 0) = us[a.toNat] := by simp [List.getD, show a.toNat < us.length by omega]
  have tq := tOk_iff.1 (List.all_eq_true.1 h us[a.toNat] (List.getElem_mem (by omega)))
  rw [← e, c3] at tq
  rw [c_impl_endChance c q row tq.2]
  unfold eA
  rw [c3]
set_option maxHeartbeats 4000000 in
theorem l_impl_RowAverage {us : List T} (h : tsOk us = true) (row : Int) (os : List Int) (ho5 : os.length ≤ 5) (rest : List Int) : ∀ (k : Nat) (on sum : Int) (so : Nat), orS us.length so rest = true → 0 ≤ on → on ≤ 6 ^ k → 0 ≤ sum → sum ≤ 70000 * k → k + rest.length = os.length → (os.map DV.i).drop k = rest.map .i →
    ∃ on' : Int, ex lf F_impl_RowAverage_W0 ⟨[(0, .sl 0 (us.map e2)), (2, .i row), (8, .i sum), (9, .i (on * 6 ^ rest.length)), (30, .sl 0 (os.map .i)), (31, .i os.length), (32, .i k)], []⟩ =
      some (.exit 0, ⟨[(0, .sl 0 (us.map e2)), (2, .i row), (8, .i (sum + rA us row on rest)), (9, .i on'), (30, .sl 0 (os.map .i)), (31, .i os.length), (32, .i os.length)], []⟩) := by
  have h' := tsOk_iff.1 h
  induction rest with
  | nil =>
    intro k on sum so ho n0 n1 s0 s1 hn hd
    have hk : k = os.length := by simpa using hn
    refine ⟨on * 6 ^ ([] : List Int).length, ?_⟩
    rw [w_impl_RowAverage_0]
    simp [F_impl_RowAverage_L0, hk, rA]
  | cons a rest ih =>
    intro k on sum so ho n0 n1 s0 s1 hn hd
    obtain ⟨o1, o2, o3⟩ := orS_cons.1 ho
    have hn2 : (k : Int) + ((DV.i a :: rest.map DV.i).length : Nat) = os.length := by simp at hn ⊢; omega
    obtain ⟨q1, q2, q3, q4, q5, q6⟩ := stp (es := os.map DV.i) (by omega) hn2 (by omega) (by simpa using hd)
    have kl : k < os.length := by omega
    obtain ⟨c, q, x1, x2, x3⟩ := eA_calli h'.2 (row := row) o1.1 o1.2
    have cn := cA_nn h'.2 a.toNat
    have ea := eA_bd h'.2 (row := row) (a := a.toNat) (by omega)
    have hl : rest.length + 1 = os.length - k := by simp at hn; omega
    have pb := p6le (i := k) (j := rest.length + 1) (by omega) n0 n1
    have pk := p6 (n := k) (by omega)
    have pr := p6 (n := rest.length) (by omega)
    have m2 : 0 ≤ c * (on * 6 ^ (rest.length + 1)) ∧ c * (on * 6 ^ (rest.length + 1)) ≤ 9 * 7776 := by
      exact ⟨Int.mul_nonneg (by omega) pb.1, Int.mul_le_mul (by omega) pb.2 pb.1 (by omega)⟩
    have w3 : wr (c * (on * 6 ^ (rest.length + 1))) = c * (on * 6 ^ (rest.length + 1)) := wr_id (by omega) (by omega)
    have w4 : wr (sum + c * (on * 6 ^ (rest.length + 1))) = sum + c * (on * 6 ^ (rest.length + 1)) := wr_id (by omega) (by omega)
    have w5 : wr (6 - eA us row a.toNat) = 6 - eA us row a.toNat := wr_id (by omega) (by omega)
    have dv : (on * 6 ^ (rest.length + 1)).tdiv 6 = on * 6 ^ rest.length := by
      rw [Int.pow_succ, ← Int.mul_assoc]
      exact Int.mul_tdiv_cancel _ (by omega)
    have pb0 : 0 ≤ on * 6 ^ rest.length ∧ on * 6 ^ rest.length ≤ 7776 := p6le (i := k) (j := rest.length) (by omega) n0 n1
    have w7 : wr (on * 6 ^ rest.length) = on * 6 ^ rest.length := wr_id (by omega) (by omega)
    have m3 : 0 ≤ on * (6 - eA us row a.toNat) ∧ on * (6 - eA us row a.toNat) ≤ 6 ^ (k + 1) := by
      refine ⟨Int.mul_nonneg n0 (by omega), ?_⟩
      rw [Int.pow_succ]
      exact Int.mul_le_mul n1 (by omega) (by omega) (by omega)
    have m4 : 0 ≤ on * 6 ^ rest.length * (6 - eA us row a.toNat) ∧ on * 6 ^ rest.length * (6 - eA us row a.toNat) ≤ 7776 * 6 :=
      ⟨Int.mul_nonneg pb0.1 (by omega), Int.mul_le_mul pb0.2 (by omega) (by omega) (by omega)⟩
    have w8 : wr (on * 6 ^ rest.length * (6 - eA us row a.toNat)) = on * (6 - eA us row a.toNat) * 6 ^ rest.length := by
      rw [wr_id (by omega) (by omega), Int.mul_assoc, Int.mul_assoc, Int.mul_comm (6 ^ rest.length)]
    have e : sum + rA us row on (a :: rest) = sum + c * (on * 6 ^ (rest.length + 1)) + rA us row (on * (6 - eA us row a.toNat)) rest := by simp only [rA, x2, Int.mul_assoc]; omega
    obtain ⟨on', I⟩ := ih (k + 1) (on * (6 - eA us row a.toNat)) (sum + c * (on * 6 ^ (rest.length + 1))) _ o3 m3.1 m3.2 (by omega) (by omega) (by simp at hn; omega) (by simpa using q6)
    refine ⟨on', ?_⟩
    have q3' : wr ((k : Int) + 1) = ((k + 1 : Nat) : Int) := by rw [q3]; omega
    have o11 := o1.1
    have o12 := o1.2
    rw [w_impl_RowAverage_0, e]
    simp only [List.length_cons] at *
    generalize on * (6 - eA us row a.toNat) * 6 ^ rest.length = G at *
    generalize on * 6 ^ (rest.length + 1) = P at *
    generalize on * 6 ^ rest.length = Q at *
    generalize rA us row _ rest = Z at *
    generalize eA us row a.toNat = E at *
    simp [F_impl_RowAverage_L0, kl, q1, q2, q3', o11, o12, x1, x3, w3, w4, w5, dv, w7, w8, I, -Int.natCast_add]
theorem c_impl_RowAverage (us : List T) (os : List Int) (row : Int) (ha : (us.length : Int) < 1099511627776) (hc : (os.length : Int) < 1099511627776) :
    call lf n_impl_RowAverage [.sl 0 (us.map e2), .sl 0 (os.map .i), .i row] = some (.i (raOf us os row), []) := by
  rw [call_k lf n_impl_RowAverage _ (F := F_impl_RowAverage) rfl rfl]
  have C1 := c_impl_TestsOk us ha
  have C3 := c_impl_OrderOk us.length os hc
  have C4 := c_impl_rowOk row
  unfold raOf raOk
  cases h1 : tsOk us with
  | false => rw [h1] at C1; simp [F_impl_RowAverage, C1]
  | true =>
    rw [h1] at C1
    cases h3 : orOk us.length os with
    | false => rw [h3] at C3; simp [F_impl_RowAverage, C1, C3]
    | true =>
      rw [h3] at C3
      cases h4 : rwOk row with
      | false =>
        rw [h4] at C4
        simp [F_impl_RowAverage, C1, C3, C4]
      | true =>
        rw [h4] at C4
        obtain ⟨g1, g2, g3⟩ := orOk_iff.1 h3
        have W := c_impl_wholeOf (n := us.length) (by omega)
        obtain ⟨on', L⟩ := l_impl_RowAverage h1 row os (by omega) os 0 1 0 0 g3 (by omega) (by omega) (by omega) (by omega) (by omega) (by simp)
        have el : os.length = us.length := by omega
        simp only [Int.natCast_zero, Int.zero_add, Int.one_mul, el] at L
        simp [F_impl_RowAverage, C1, C3, C4, W, el, L]
end
section
attribute [-simp] DV.cells
attribute [local simp] sliceD cells_st cells_sl cells_i cells_y cells_b cells_s cells_w
theorem c_impl_ratioOf (c q row : Int) (hq : 1 ≤ q ∧ q ≤ 5) : call lf n_impl_ratioOf [.st [.i c, .i q], .i row] = some (.st [.i c, .i (if row = 0 then 6 - q else q)], []) := by
  rw [call_k lf n_impl_ratioOf _ (F := F_impl_ratioOf) rfl rfl]
  have C := c_impl_endChance c q row hq
  generalize (if row = 0 then 6 - q else q) = z at *
  simp [F_impl_ratioOf, C]
theorem c_impl_isLess (a b x y : Int) (h1 : 0 ≤ a * y ∧ a * y ≤ 1000) (h2 : 0 ≤ x * b ∧ x * b ≤ 1000) : call lf n_impl_ratio_isLess [.st [.i a, .i b], .st [.i x, .i y]] = some (.b (decide (a * y < x * b)), []) := by
  rw [call_k lf n_impl_ratio_isLess _ (F := F_impl_ratio_isLess) rfl rfl]
  have w1 : wr (a * y) = a * y := wr_id (by omega) (by omega)
  have w2 : wr (x * b) = x * b := wr_id (by omega) (by omega)
  simp [F_impl_ratio_isLess, w1, w2]
theorem c_impl_less {us : List T} (h : tsOk us = true) (row : Int) {a b : Int} (ha : 0 ≤ a ∧ a < us.length) (hb : 0 ≤ b ∧ b < us.length) :
    call lf n_impl_RatioOrder_1 [.i a, .i b, .adr (.sl 0 (us.map e2)), .adr (.i row)] = some (.b (!(rLe us row b a)), []) := by
  have h' := tsOk_iff.1 h
  obtain ⟨c1, q1, x1, x2, x3⟩ := cA_at (us := us) ha.1 ha.2
  obtain ⟨c2, q2, y1, y2, y3⟩ := cA_at (us := us) hb.1 hb.2
  have tq1 := tOk_iff.1 (List.all_eq_true.1 h'.2 us[a.toNat] (List.getElem_mem (by omega)))
  have tq2 := tOk_iff.1 (List.all_eq_true.1 h'.2 us[b.toNat] (List.getElem_mem (by omega)))
  rw [← show us.getD a.toNat (0, 0) = us[a.toNat] by simp [List.getD, show a.toNat < us.length by omega], x3] at tq1
  rw [← show us.getD b.toNat (0, 0) = us[b.toNat] by simp [List.getD, show b.toNat < us.length by omega], y3] at tq2
  have R1 := c_impl_ratioOf c1 q1 row tq1.2
  have R2 := c_impl_ratioOf c2 q2 row tq2.2
  have e1 : (if row = 0 then 6 - q1 else q1) = eA us row a.toNat := by unfold eA; rw [x3]
  have e2' : (if row = 0 then 6 - q2 else q2) = eA us row b.toNat := by unfold eA; rw [y3]
  rw [e1] at R1
  rw [e2'] at R2
  have b1 := eA_bd h'.2 (row := row) (a := a.toNat) (by omega)
  have b2 := eA_bd h'.2 (row := row) (a := b.toNat) (by omega)
  have t1 := tq1.1
  have t2 := tq2.1
  simp only at t1 t2
  have I := c_impl_isLess c1 (eA us row a.toNat) c2 (eA us row b.toNat) ⟨Int.mul_nonneg (by omega) (by omega), Int.le_trans (Int.mul_le_mul (show c1 ≤ 9 by omega) (show eA us row b.toNat ≤ 5 by omega) (by omega) (by omega)) (by omega)⟩ ⟨Int.mul_nonneg (by omega) (by omega), Int.le_trans (Int.mul_le_mul (show c2 ≤ 9 by omega) (show eA us row a.toNat ≤ 5 by omega) (by omega) (by omega)) (by omega)⟩
  have e : (!(rLe us row b a)) = decide (c1 * eA us row b.toNat < c2 * eA us row a.toNat) := by
    unfold rLe
    rw [← x2, ← y2]
    by_cases hc : c2 * eA us row a.toNat ≤ c1 * eA us row b.toNat
    · rw [decide_eq_true hc, decide_eq_false (by omega)]; rfl
    · rw [decide_eq_false hc, decide_eq_true (by omega)]; rfl
  rw [e]
  have ha1 := ha.1
  have ha2 := ha.2
  have hb1 := hb.1
  have hb2 := hb.2
  rw [call_k lf n_impl_RatioOrder_1 _ (F := F_impl_RatioOrder_1) rfl rfl]
  simp [F_impl_RatioOrder_1, x1, y1, R1, R2, I]
theorem c_Insert (es : List DV) (x : DV) {n : Nat} (hn : n ≤ es.length) (hb : es.length ≤ 1000) : call lf n_slices_Insert_int_int [.gv 1 es, .i n, .gv 1 [x]] = some (.fr 1 (es.take n ++ x :: es.drop n), []) := by
  rw [call_prim lf n_slices_Insert_int_int _ (F := F_slices_Insert_int_int) rfl rfl, ins_k, if_pos ⟨by omega, by omega, by simp [bound]; omega, by simp⟩]
  simp
def stIs (us : List T) (row k : Int) (L : List Int) (a : Nat) : LS := ⟨[(0, .own 14 L.length 0 L.length), (1, .i k), (2, .fn n_impl_RatioOrder_1 [.adr (.sl 0 (us.map e2)), .adr (.i row)]), (7, .i a)], [(14, L.map .i)]⟩
set_option maxHeartbeats 4000000 in
theorem ins_loop {us : List T} (h : tsOk us = true) (row : Int) {k : Int} (hk : 0 ≤ k ∧ k < us.length) {L : List Int} (hL : L.length ≤ 5) {p : Nat} (H : ∀ j (hj : j < L.length), (0 ≤ L[j] ∧ L[j] < us.length) ∧ rLe us row L[j] k = decide (j < p)) : ∀ d : Nat, p + d ≤ L.length →
    ex lf F_impl_inserted_int_W0 (stIs us row k L (p + d)) = some (.exit 0, stIs us row k L p) := by
  have tk : List.take L.length (L.map DV.i) = L.map .i := List.take_of_length_le (by simp)
  have one : ∀ (j : Nat) (hj : j < L.length), atI (L.map DV.i) ((j : Nat) : Int) = some (.i L[j]) ∧ atN (L.map DV.i) j = some (.i L[j]) ∧ wr (((j + 1 : Nat) : Int) - 1) = (j : Nat) ∧ (0 : Int) < ((j + 1 : Nat) : Int) ∧ call lf n_impl_RatioOrder_1 [.i k, .i L[j], .adr (.sl 0 (us.map e2)), .adr (.i row)] = some (.b (!(decide (j < p))), []) := by
    intro j hj
    obtain ⟨h1, h2⟩ := H j hj
    refine ⟨?_, ?_, ?_, by omega, ?_⟩
    · simp only [atI, if_pos (Int.natCast_nonneg _)]
      show (L.map DV.i)[((j : Nat) : Int).toNat]? = _
      rw [Int.toNat_natCast]; simp [hj]
    · show (L.map DV.i)[j]? = _
      simp [hj]
    · rw [wr_id (by omega) (by omega)]; omega
    · rw [c_impl_less h row hk h1, h2]
  intro d
  induction d with
  | zero =>
    intro hd
    cases p with
    | zero =>
      rw [w_impl_inserted_int_0]
      simp [stIs, F_impl_inserted_int_L0]
    | succ p =>
      obtain ⟨q1, q2, q3, q4, q5⟩ := one p (by omega)
      rw [decide_eq_true (show p < p + 1 by omega)] at q5
      have hp : p < L.length := by omega
      rw [w_impl_inserted_int_0]
      simp [stIs, F_impl_inserted_int_L0, tk, q1, q2, q3, q4, q5, hp, -Int.natCast_add]
  | succ d ih =>
    intro hd
    obtain ⟨q1, q2, q3, q4, q5⟩ := one (p + d) (by omega)
    rw [decide_eq_false (show ¬ p + d < p by omega)] at q5
    have hp : p + d < L.length := by omega
    have I := ih (by omega)
    rw [w_impl_inserted_int_0, show p + (d + 1) = p + d + 1 by omega]
    unfold stIs at *
    simp [F_impl_inserted_int_L0, tk, q1, q2, q3, q4, q5, hp, I, -Int.natCast_add]
theorem c_impl_inserted {us : List T} (h : tsOk us = true) (row : Int) {k : Int} (hk : 0 ≤ k ∧ k < us.length) {L : List Int} (hL : L.length ≤ 5) {p : Nat} (hp : p ≤ L.length) (H : ∀ j (hj : j < L.length), (0 ≤ L[j] ∧ L[j] < us.length) ∧ rLe us row L[j] k = decide (j < p)) :
    call lf n_impl_inserted_int [.gv 1 (L.map .i), .i k, .fn n_impl_RatioOrder_1 [.adr (.sl 0 (us.map e2)), .adr (.i row)]] = some (.fr 1 ((L.take p ++ k :: L.drop p).map .i), []) := by
  have W := ins_loop h row hk hL H (L.length - p) (by omega)
  rw [show p + (L.length - p) = L.length by omega] at W
  unfold stIs at W
  have I := c_Insert (L.map .i) (.i k) (n := p) (by simpa using hp) (by simp; omega)
  have e : (L.map DV.i).take p ++ DV.i k :: (L.map DV.i).drop p = (L.take p ++ k :: L.drop p).map .i := by simp
  rw [e] at I
  have le : (L.take p ++ k :: L.drop p).length = L.length + 1 := by simp; omega
  rw [call_k lf n_impl_inserted_int _ (F := F_impl_inserted_int) rfl rfl]
  generalize L.take p ++ k :: L.drop p = M at *
  simp [F_impl_inserted_int, W, I]
theorem rO_split {us : List T} (h : tsOk us = true) (row : Int) {i : Nat} (hi : i < us.length) : ∀ j (hj : j < (rO us row i).length), (0 ≤ (rO us row i)[j] ∧ (rO us row i)[j] < us.length) ∧ rLe us row (rO us row i)[j] i = decide (j < insPos us row i (rO us row i)) := by
  have h' := tsOk_iff.1 h
  have S := rO_sorted h'.2 row i (by omega)
  have M : ∀ o ∈ rO us row i, 0 ≤ o ∧ o < us.length := fun o ho => by have := rO_mem ho; omega
  generalize rO us row i = L at *
  intro j hj
  refine ⟨M _ (List.getElem_mem hj), ?_⟩
  induction L generalizing j with
  | nil => simp at hj
  | cons o r ih =>
    obtain ⟨p1, p2⟩ := List.pairwise_cons.1 S
    have ih := ih p2 (fun o ho => M o (List.mem_cons_of_mem _ ho))
    by_cases hc : rLe us row o i = true
    · have e : insPos us row i (o :: r) = insPos us row i r + 1 := by simp only [insPos]; rw [if_pos hc]
      rw [e]
      cases j with
      | zero => simp [hc]
      | succ j =>
        have := ih j (by simpa using hj)
        rw [List.getElem_cons_succ, this]
        simp
    · have e : insPos us row i (o :: r) = 0 := by simp only [insPos]; rw [if_neg hc]
      rw [e]
      have hf : rLe us row o i = false := by simpa using hc
      cases j with
      | zero => simp [hf]
      | succ j =>
        rw [List.getElem_cons_succ]
        have hj' : j < r.length := by simpa using hj
        have hm := M _ (List.mem_cons_self ..)
        have hr := M _ (List.mem_cons_of_mem _ (List.getElem_mem hj'))
        cases hq : rLe us row r[j] i with
        | false => simp
        | true =>
          have := rLe_trans h'.2 (row := row) (a := o) (b := r[j]) (c := (i : Int)) (by omega) (by omega) (by omega) (p1 _ (List.getElem_mem hj')) hq
          rw [hf] at this; cases this
def stOi (us : List T) (row : Int) (K : Nat) (L : List Int) (i : Nat) : LS := ⟨[(5, .fn n_impl_RatioOrder_1 [.adr (.sl 0 (us.map e2)), .adr (.i row)]), (6, .own K L.length 0 L.length), (18, .i us.length), (19, .i i)], [(K, L.map .i)]⟩
set_option maxHeartbeats 4000000 in
theorem ratio_outerI {us : List T} (h : tsOk us = true) (row : Int) (j : Nat) : ∀ (i K : Nat), (K = 3080 ∨ K = 12808) → i + j = us.length →
    ex lf F_impl_RatioOrder_W0 (stOi us row K (rO us row i) i) = some (.exit 0, stOi us row 3080 (rO us row us.length) us.length) := by
  have h' := tsOk_iff.1 h
  induction j with
  | zero =>
    intro i K hK hi
    have e : i = us.length := by omega
    subst e
    rw [w_impl_RatioOrder_0]
    rcases hK with rfl | rfl <;> simp [stOi, F_impl_RatioOrder_L0]
  | succ j ih =>
    intro i K hK hi
    have k2 := ih (i + 1) 12808 (.inr rfl) (by omega)
    have hlt : i < us.length := by omega
    have ll := rO_len us row i
    have pl := insPos_le us row i (rO us row i)
    have I := c_impl_inserted h row (k := (i : Nat)) ⟨by omega, by omega⟩ (L := rO us row i) (by omega) pl (rO_split h row hlt)
    rw [← insR_pos us row i (rO us row i), show insR us row i (rO us row i) = rO us row (i + 1) from rfl] at I
    have l2 := rO_len us row (i + 1)
    have w1 : wr ((i : Int) + 1) = ((i + 1 : Nat) : Int) := by rw [wr_id (by omega) (by omega)]; omega
    have lt' : (i : Int) < us.length := by omega
    unfold stOi at *
    rw [l2] at k2
    rw [ll]
    have m1 : ((rO us row i).map DV.i).length = i := by simp [ll]
    have m2 : ((rO us row (i + 1)).map DV.i).length = i + 1 := by simp [l2]
    have lm : lendL ((rO us row i).map DV.i) = (rO us row i).map .i := by simp
    have am : ∀ b, adoptL b ((rO us row (i + 1)).map DV.i) = (rO us row (i + 1)).map .i := fun b => by simp
    rw [w_impl_RatioOrder_0]
    generalize (rO us row i).map DV.i = M at *
    generalize (rO us row (i + 1)).map DV.i = M2 at *
    rcases hK with rfl | rfl <;> simp [F_impl_RatioOrder_L0, hlt, lt', I, w1, k2, m1, m2, lm, am, -Int.natCast_add]
theorem c_impl_RatioOrder (us : List T) (row : Int) (ha : (us.length : Int) < 1099511627776) : call lf n_impl_RatioOrder [.sl 0 (us.map e2), .i row] = some (.fr 1 ((roL us row).map .i), []) := by
  rw [call_k lf n_impl_RatioOrder _ (F := F_impl_RatioOrder) rfl rfl]
  have C1 := c_impl_TestsOk us ha
  have C2 := c_impl_rowOk row
  unfold roL
  cases h1 : tsOk us with
  | false => rw [h1] at C1; simp [F_impl_RatioOrder, C1]
  | true =>
    rw [h1] at C1
    cases h2 : rwOk row with
    | false => rw [h2] at C2; simp [F_impl_RatioOrder, C1, C2]
    | true =>
      rw [h2] at C2
      have L := ratio_outerI h1 row us.length 0 3080 (.inl rfl) (by omega)
      unfold stOi at L
      have z : (rO us row 0).map DV.i = [] := rfl
      have z' : (rO us row 0).length = 0 := rfl
      rw [z, z'] at L
      simp only [Int.natCast_zero] at L
      have ll := rO_len us row us.length
      rw [ll] at L
      simp [F_impl_RatioOrder, C1, C2, L, ll]
end
section
inductive PT where
  | stop
  | ask (k : Nat) (no yes : PT)
def fcd (m : Nat) (t : List T) (ks : List Int) : Bool := foT m t ks != -1
end
section
/-- whether a tree asks a test -/
def asks (k : Nat) : PT → Prop
  | .stop => False
  | .ask j n y => j = k ∨ asks k n ∨ asks k y
end
section
abbrev C3 := Int × Int × Int
/-- a tree with the places of its choices -/
inductive LT where
  | stop
  | ask (p k : Nat) (no yes : LT)
def LT.er : LT → PT
  | .stop => .stop
  | .ask _ k n y => .ask k n.er y.er
def LT.size : LT → Nat
  | .stop => 0
  | .ask _ _ n y => 1 + n.size + y.size
/-- where one may go on to from a place -/
def nxt (N : Nat) (p : Nat) (a : Int) : Prop := a = -1 ∨ ((p : Int) + 1 ≤ a ∧ a ≤ (N : Int) - 1)
instance (N p : Nat) (a : Int) : Decidable (nxt N p a) := by unfold nxt; infer_instance
/-- the row holds the tree, from a place on -/
def enc (P : List C3) : Int → LT → Prop
  | a, .stop => a = -1
  | a, .ask p k n y => a = (p : Int) ∧ ∃ no ye, P[p]? = some ((k : Int), no, ye) ∧ nxt P.length p no ∧ nxt P.length p ye ∧ enc P no n ∧ enc P ye y
/-- where a row goes on to -/
def rfs : List C3 → List Int
  | [] => []
  | (_, no, ye) :: r => (if no = -1 then [] else [no]) ++ (if ye = -1 then [] else [ye]) ++ rfs r
/-- how often a place is in a tree -/
def LT.cnt (a : Nat) : LT → Nat
  | .stop => 0
  | .ask p _ n y => (if p = a then 1 else 0) + n.cnt a + y.cnt a
end
section
def PT.size : PT → Nat
  | .stop => 0
  | .ask _ n y => 1 + n.size + y.size
def rot (P : List C3) : Int := if P = [] then -1 else 0
end
section
attribute [-simp] DV.cells
attribute [local simp] sliceD cells_st cells_sl cells_i cells_y cells_b cells_s cells_w
theorem lend_e3 (P : List C3) : lendL (P.map e3) = P.map e3 := by rw [lendL_map, List.map_map]; rfl
theorem adopt_e3 (o : Bool) (P : List C3) : adoptL o (P.map e3) = P.map e3 := by rw [adoptL_map, List.map_map]; rfl
theorem new_e3 (P : List C3) : allNewL (P.map e3) = true := by rw [allNewL_all, List.all_map, List.all_eq_true]; intro x _; rfl
theorem al_e3 (P : List C3) : allOldL (P.map e3) = true := by rw [allOldL_all, List.all_map, List.all_eq_true]; intro x _; rfl
theorem lt_e3 (n : Nat) (P : List C3) : lendL (List.take n (P.map e3)) = List.take n (P.map e3) := by rw [← List.map_take, lend_e3]
attribute [local simp] lend_e3 adopt_e3 new_e3 al_e3 lt_e3
def C3.nx (c : C3) (b : Bool) : Int := if b then c.2.2 else c.2.1
end
section
def aN : List Int → Nat
  | [] => 0
  | k :: r => (if k = -1 then 0 else 1) + 2 * aN r
def kn : List Int → Nat
  | [] => 0
  | k :: r => (if k = -1 then 0 else 1) + kn r
/-- how many ones there are, for small numbers -/
def pc (x : Nat) : Nat := x % 2 + x / 2 % 2 + x / 4 % 2 + x / 8 % 2 + x / 16 % 2
/-- what agrees, as a number -/
def lfW (ks : List Int) : BitVec 32 := agW ks 0 (4294967295#32)
end
section
abbrev Pts := List (Option (List Int))
/-- one goes on to where it is noted -/
def go3 (m : Nat) (t : List T) (N : Nat) (pts : Pts) (p : Int) (a : Int) (ks : List Int) : Prop :=
  (a = -1 ∧ fcd m t ks = true) ∨ (p + 1 ≤ a ∧ a ≤ (N : Int) - 1 ∧ pts[a.toNat]? = some (some ks))
structure Inv (m : Nat) (t : List T) (P : List C3) (p : Nat) (pts : Pts) : Prop where
  len : pts.length = P.length
  nd : (rfs (P.take p)).Nodup
  rng : ∀ a ∈ rfs (P.take p), 1 ≤ a ∧ a < P.length
  iff_ : ∀ a : Nat, a < P.length → (pts[a]? ≠ some none ↔ (a = 0 ∨ (a : Int) ∈ rfs (P.take p)))
  ok : ∀ (a : Nat) (ks : List Int), pts[a]? = some (some ks) → ks.length = m ∧ ks.all kOk = true ∧ fcd m t ks = false
  loc : ∀ q : Nat, q < p → ∃ (ks : List Int) (k no ye : Int), P[q]? = some (k, no, ye) ∧ pts[q]? = some (some ks) ∧ (0 ≤ k ∧ k < m) ∧ ks[k.toNat]? = some (-1) ∧ go3 m t P.length pts q no (ks.set k.toNat 0) ∧ go3 m t P.length pts q ye (ks.set k.toNat 1)
/-- what one step adds to what is gone on to -/
def ad1 (a : Int) : List Int := if a = -1 then [] else [a]
end
section
attribute [-simp] DV.cells
attribute [local simp] sliceD cells_st cells_sl cells_i cells_y cells_b cells_s cells_w
attribute [local simp] lend_e3 adopt_e3 new_e3 al_e3 lt_e3
def pv (m a : Int) (w v : BitVec 32) : DV := .st [.i m, .i a, .w w, .w v]
/-- the point at which so much is known -/
def pD (m : Nat) (t : List T) (ks : List Int) : DV := pv m (aN ks) (lfW ks) (tsW t)
/-- 64 bits: how many are ones -/
theorem c_OnesCount64 {n : Nat} (h : n < 32) : call lf n_math_bits_OnesCount64 [.q n] = some (.i (pc n), []) := by
  rw [call_k lf n_math_bits_OnesCount64 _ (F := F_math_bits_OnesCount64) rfl rfl]
  have c : n = 0 ∨ n = 1 ∨ n = 2 ∨ n = 3 ∨ n = 4 ∨ n = 5 ∨ n = 6 ∨ n = 7 ∨ n = 8 ∨ n = 9 ∨ n = 10 ∨ n = 11 ∨ n = 12 ∨ n = 13 ∨ n = 14 ∨ n = 15 ∨ n = 16 ∨ n = 17 ∨ n = 18 ∨ n = 19 ∨ n = 20 ∨ n = 21 ∨ n = 22 ∨ n = 23 ∨ n = 24 ∨ n = 25 ∨ n = 26 ∨ n = 27 ∨ n = 28 ∨ n = 29 ∨ n = 30 ∨ n = 31 := by omega
  rcases c with rfl | rfl | rfl | rfl | rfl | rfl | rfl | rfl | rfl | rfl | rfl | rfl | rfl | rfl | rfl | rfl | rfl | rfl | rfl | rfl | rfl | rfl | rfl | rfl | rfl | rfl | rfl | rfl | rfl | rfl | rfl | rfl <;>
    simp [F_math_bits_OnesCount64, pc, andI, wr, Go.IntKind.wrap, Go.IntKind.signed, Go.IntKind.bits]
theorem c_OnesCount {n : Nat} (h : n < 32) : call lf n_math_bits_OnesCount [.q n] = some (.i (pc n), []) := by
  have C := c_OnesCount64 h
  rw [call_k lf n_math_bits_OnesCount _ (F := F_math_bits_OnesCount) rfl rfl]
  simp [F_math_bits_OnesCount, C]
theorem c_impl_sizeOf {n : Nat} (h : n < 32) : call lf n_impl_sizeOf [.i n] = some (.i (pc n), []) := by
  have C := c_OnesCount h
  have e : ((n : Int) % 18446744073709551616).toNat = n := by omega
  rw [call_k lf n_impl_sizeOf _ (F := F_impl_sizeOf) rfl rfl]
  simp [F_impl_sizeOf, C, e]
end
section
attribute [-simp] DV.cells
attribute [local simp] sliceD cells_st cells_sl cells_i cells_y cells_b cells_s cells_w
attribute [local simp] lend_e3 adopt_e3 new_e3 al_e3 lt_e3
def e4 (m : Nat) (t : List T) : Option (List Int) → DV
  | some ks => pD m t ks
  | none => pv 0 0 (0#32) (0#32)
end
section
attribute [-simp] DV.cells
attribute [local simp] sliceD cells_st cells_sl cells_i cells_y cells_b cells_s cells_w
attribute [local simp] lend_e3 adopt_e3 new_e3 al_e3 lt_e3
structure Fin (m : Nat) (t : List T) (P : List C3) (L : LT) (pts : Pts) : Prop where
  inv : Inv m t P P.length pts
  start : go3 m t P.length pts (-1) (rot P) (non m)
end
section
attribute [-simp] DV.cells
attribute [local simp] sliceD cells_st cells_sl cells_i cells_y cells_b cells_s cells_w
attribute [local simp] lend_e3 adopt_e3 new_e3 al_e3 lt_e3
theorem c_averageAsking {c q no yes : Int} {n : Nat} (hn : n ≤ 5) (hc : 1 ≤ c ∧ c ≤ 9) (hq : 1 ≤ q ∧ q ≤ 5) (h0 : 0 ≤ no ∧ no ≤ 400000) (h1 : 0 ≤ yes ∧ yes ≤ 400000) :
    call lf n_impl_averageAsking [.st [.i c, .i q], .i n, .i no, .i yes] = some (.i (c * 6 ^ n + (6 - q) * no + q * yes), []) := by
  have W := c_impl_wholeOf hn
  have p := p6 hn
  have b1 : c * 6 ^ n ≤ 9 * 7776 := Int.mul_le_mul hc.2 p.2 (by omega) (by omega)
  have b1' : 0 ≤ c * 6 ^ n := Int.mul_nonneg (by omega) (by omega)
  have b2 : (6 - q) * no ≤ 5 * 400000 := Int.mul_le_mul (by omega) h0.2 h0.1 (by omega)
  have b2' : 0 ≤ (6 - q) * no := Int.mul_nonneg (by omega) h0.1
  have b3 : q * yes ≤ 5 * 400000 := Int.mul_le_mul (by omega) h1.2 h1.1 (by omega)
  have b3' : 0 ≤ q * yes := Int.mul_nonneg (by omega) h1.1
  have w2 : wr (c * 6 ^ n) = c * 6 ^ n := wr_id (by omega) (by omega)
  have w3 : wr (6 - q) = 6 - q := wr_id (by omega) (by omega)
  have w4 : wr ((6 - q) * no) = (6 - q) * no := wr_id (by omega) (by omega)
  have w5 : wr (c * 6 ^ n + (6 - q) * no) = c * 6 ^ n + (6 - q) * no := wr_id (by omega) (by omega)
  have w6 : wr (q * yes) = q * yes := wr_id (by omega) (by omega)
  have w7 : wr (c * 6 ^ n + (6 - q) * no + q * yes) = c * 6 ^ n + (6 - q) * no + q * yes := wr_id (by omega) (by omega)
  rw [call_k lf n_impl_averageAsking _ (F := F_impl_averageAsking) rfl rfl]
  generalize (6 : Int) ^ n = z at *
  simp [F_impl_averageAsking, W, w2, w3, w4, w5, w6, w7]
end
section
/-- what it costs, the parts in which it ends all, and its whole -/
abbrev I3 := Int × Int × Int
def gM : List I3 → Int
  | [] => 1
  | x :: r => x.2.2 * gM r
def gD : List I3 → Int
  | [] => 0
  | x :: r => x.1 * gM r + (x.2.2 - x.2.1) * gD r
def iOk (x : I3) : Prop := 0 ≤ x.1 ∧ 0 < x.2.1 ∧ x.2.1 ≤ x.2.2
def gLe (a b : I3) : Bool := decide (a.1 * b.2.1 ≤ b.1 * a.2.1)
theorem gM_pos : ∀ {l : List I3}, (∀ x ∈ l, iOk x) → 0 < gM l
  | [], _ => by simp [gM]
  | x :: r, h => by
    have hx := h x List.mem_cons_self
    have := gM_pos (l := r) (fun y hy => h y (List.mem_cons_of_mem _ hy))
    exact Int.mul_pos (by unfold iOk at hx; omega) this
theorem gM_perm {p q : List I3} (h : p.Perm q) : gM p = gM q := by
  induction h with
  | nil => rfl
  | cons x _ ih => simp only [gM]; rw [ih]
  | swap x y l => simp only [gM]; rw [Int.mul_left_comm]
  | trans _ _ a b => exact a.trans b
theorem gD_swap (x y : I3) (r : List I3) : gD (x :: y :: r) + y.1 * x.2.1 * gM r = gD (y :: x :: r) + x.1 * y.2.1 * gM r := by
  simp only [gD, gM]
  grind
theorem gLe_trans {a b c : I3} (ha : iOk a) (hb : iOk b) (hc : iOk c) (h1 : gLe a b = true) (h2 : gLe b c = true) : gLe a c = true := by
  unfold gLe at *
  rw [decide_eq_true_eq] at *
  refine Int.le_of_mul_le_mul_right (a := b.2.1) ?_ hb.2.1
  have q1 := Int.mul_le_mul_of_nonneg_right h1 (show 0 ≤ c.2.1 from Int.le_of_lt hc.2.1)
  have q2 := Int.mul_le_mul_of_nonneg_right h2 (show 0 ≤ a.2.1 from Int.le_of_lt ha.2.1)
  grind
theorem gLe_total {a b : I3} (h : gLe a b = false) : gLe b a = true := by
  unfold gLe at *
  rw [decide_eq_true_eq]
  rw [decide_eq_false_iff_not] at h
  omega
def insI (x : I3) : List I3 → List I3
  | [] => [x]
  | o :: r => if gLe o x = true then o :: insI x r else x :: o :: r
def srtI : List I3 → List I3
  | [] => []
  | x :: r => insI x (srtI r)
theorem insI_perm (x : I3) : ∀ l : List I3, (insI x l).Perm (x :: l)
  | [] => List.Perm.refl _
  | o :: r => by
    simp only [insI]
    split
    · exact ((insI_perm x r).cons o).trans (List.Perm.swap x o r)
    · exact List.Perm.refl _
theorem srtI_perm : ∀ l : List I3, (srtI l).Perm l
  | [] => List.Perm.refl _
  | x :: r => (insI_perm x (srtI r)).trans ((srtI_perm r).cons x)
theorem insI_sorted {x : I3} (hx : iOk x) : ∀ {l : List I3}, (∀ o ∈ l, iOk o) → l.Pairwise (fun a b => gLe a b = true) → (insI x l).Pairwise (fun a b => gLe a b = true)
  | [], _, _ => List.pairwise_singleton _ _
  | o :: r, hm, hp => by
    obtain ⟨p1, p2⟩ := List.pairwise_cons.1 hp
    have ho := hm o List.mem_cons_self
    have hr : ∀ y ∈ r, iOk y := fun y hy => hm y (List.mem_cons_of_mem _ hy)
    simp only [insI]
    by_cases hc : gLe o x = true
    · rw [if_pos hc]
      refine List.pairwise_cons.2 ⟨fun y hy => ?_, insI_sorted hx hr p2⟩
      rcases List.mem_cons.1 ((insI_perm x r).mem_iff.1 hy) with rfl | hy
      · exact hc
      · exact p1 y hy
    · rw [if_neg hc]
      have hc' : gLe x o = true := gLe_total (by simpa using hc)
      refine List.pairwise_cons.2 ⟨fun y hy => ?_, hp⟩
      rcases List.mem_cons.1 hy with rfl | hy
      · exact hc'
      · exact gLe_trans hx ho (hr y hy) hc' (p1 y hy)
theorem srtI_sorted : ∀ {l : List I3}, (∀ x ∈ l, iOk x) → (srtI l).Pairwise (fun a b => gLe a b = true)
  | [], _ => List.Pairwise.nil
  | x :: r, h => insI_sorted (h x List.mem_cons_self) (fun o ho => h o (List.mem_cons_of_mem _ ((srtI_perm r).mem_iff.1 ho))) (srtI_sorted fun y hy => h y (List.mem_cons_of_mem _ hy))
/-- the least ratio moved to the front -/
theorem gD_front {a : I3} (ha : iOk a) : ∀ (p q : List I3), (∀ x ∈ p, iOk x) → (∀ x ∈ q, iOk x) → (∀ x ∈ p, gLe a x = true) → gD (a :: (p ++ q)) ≤ gD (p ++ a :: q)
  | [], q, _, _, _ => Int.le_refl _
  | x :: p, q, hp, hq, hl => by
    have s := gD_swap a x (p ++ q)
    have hx := hp x List.mem_cons_self
    have hp' : ∀ y ∈ p, iOk y := fun y hy => hp y (List.mem_cons_of_mem _ hy)
    have l0 := hl x List.mem_cons_self
    unfold gLe at l0
    rw [decide_eq_true_eq] at l0
    have f := gD_front ha p q hp' hq (fun y hy => hl y (List.mem_cons_of_mem _ hy))
    have gm : gM (p ++ a :: q) = gM (a :: (p ++ q)) := gM_perm List.perm_middle
    have mp : 0 < gM (p ++ q) := gM_pos fun y hy => (List.mem_append.1 hy).elim (hp' y) (hq y)
    have k1 := Int.mul_le_mul_of_nonneg_right l0 (Int.le_of_lt mp)
    have k2 := Int.mul_le_mul_of_nonneg_left f (show 0 ≤ x.2.2 - x.2.1 by unfold iOk at hx; omega)
    have e1 : gD (x :: a :: (p ++ q)) = x.1 * gM (a :: (p ++ q)) + (x.2.2 - x.2.1) * gD (a :: (p ++ q)) := rfl
    have e2 : gD (x :: (p ++ a :: q)) = x.1 * gM (p ++ a :: q) + (x.2.2 - x.2.1) * gD (p ++ a :: q) := rfl
    rw [gm] at e2
    show gD (a :: x :: (p ++ q)) ≤ gD (x :: (p ++ a :: q))
    omega
theorem gD_least : ∀ {l p : List I3}, (∀ x ∈ l, iOk x) → l.Pairwise (fun a b => gLe a b = true) → p.Perm l → gD l ≤ gD p
  | [], p, _, _, hp => by rw [hp.eq_nil]; exact Int.le_refl _
  | a :: l, p, hm, hs, hp => by
    obtain ⟨p1, p2, rfl⟩ := List.append_of_mem (hp.mem_iff.2 List.mem_cons_self)
    have hpp : (p1 ++ p2).Perm l := (List.perm_cons a).1 (List.perm_middle.symm.trans hp)
    obtain ⟨s1, s2⟩ := List.pairwise_cons.1 hs
    have ha := hm a List.mem_cons_self
    have hl : ∀ x ∈ l, iOk x := fun x hx => hm x (List.mem_cons_of_mem _ hx)
    have hm1 : ∀ x ∈ p1, x ∈ l := fun x hx => hpp.mem_iff.1 (List.mem_append_left _ hx)
    have hm2 : ∀ x ∈ p2, x ∈ l := fun x hx => hpp.mem_iff.1 (List.mem_append_right _ hx)
    have f := gD_front ha p1 p2 (fun x hx => hl x (hm1 x hx)) (fun x hx => hl x (hm2 x hx)) (fun x hx => s1 x (hm1 x hx))
    have i := gD_least (l := l) (p := p1 ++ p2) hl s2 hpp
    have e1 : gD (a :: l) = a.1 * gM l + (a.2.2 - a.2.1) * gD l := rfl
    have e2 : gD (a :: (p1 ++ p2)) = a.1 * gM (p1 ++ p2) + (a.2.2 - a.2.1) * gD (p1 ++ p2) := rfl
    rw [gM_perm hpp] at e2
    have k := Int.mul_le_mul_of_nonneg_left i (show 0 ≤ a.2.2 - a.2.1 by unfold iOk at ha; omega)
    omega
/-- what the best order costs -/
def gB (l : List I3) : Int := gD (srtI l)
theorem gB_le {l p : List I3} (h : ∀ x ∈ l, iOk x) (hp : p.Perm l) : gB l ≤ gD p :=
  gD_least (fun x hx => h x ((srtI_perm l).mem_iff.1 hx)) (srtI_sorted h) (hp.trans (srtI_perm l).symm)
theorem gB_sorted {l p : List I3} (h : ∀ x ∈ l, iOk x) (hp : p.Perm l) (hs : p.Pairwise (fun a b => gLe a b = true)) : gB l = gD p := by
  have a := gB_le h hp
  have b := gD_least (l := p) (p := srtI l) (fun x hx => h x (hp.mem_iff.1 hx)) hs ((srtI_perm l).trans hp.symm)
  unfold gB at *
  omega
end
section
def pA (us : List T) (k : Nat) : Int := (us.getD k (0, 0)).2
def itT (us : List T) (k : Nat) : I3 := (6 * cA us k, pA us k, 6)
/-- what a group costs at best, and the chance that none comes out yes -/
def grC (us : List T) (l : List Nat) : Int := gB (l.map (itT us))
theorem pA_bd {us : List T} (h : us.all tOk = true) {k : Nat} (hk : k < us.length) : 1 ≤ pA us k ∧ pA us k ≤ 5 := by
  unfold pA
  have e : us.getD k (0, 0) = us[k] := by simp [List.getD, hk]
  rw [e]
  have := tOk_iff.1 (List.all_eq_true.1 h us[k] (List.getElem_mem hk))
  omega
theorem itT_ok {us : List T} (h : us.all tOk = true) {k : Nat} (hk : k < us.length) : iOk (itT us k) := by
  have a := pA_bd h hk
  have b := cA_nn h k
  refine ⟨?_, ?_, ?_⟩ <;> simp only [itT] <;> omega
theorem its_ok {us : List T} (h : us.all tOk = true) {l : List Nat} (hl : ∀ k ∈ l, k < us.length) : ∀ x ∈ l.map (itT us), iOk x := fun x hx => by
  obtain ⟨k, hk, rfl⟩ := List.mem_map.1 hx
  exact itT_ok h (hl k hk)
theorem its_M (us : List T) : ∀ l : List Nat, gM (l.map (itT us)) = 6 ^ l.length
  | [] => rfl
  | k :: r => by
    simp only [List.map_cons, gM, List.length_cons]
    rw [its_M us r, Int.pow_succ, Int.mul_comm]
    rfl
end
section
/-- .. as a row costs -/
theorem rA_gD (us : List T) : ∀ (l : List Int) (on : Int), rA us 1 on l = on * gD ((l.map Int.toNat).map (itT us))
  | [], on => by simp [rA, gD]
  | a :: r, on => by
    simp only [rA, List.map_cons, gD]
    rw [rA_gD us r, its_M, List.length_map, Int.pow_succ]
    have e1 : (itT us a.toNat).1 = 6 * cA us a.toNat := rfl
    have e2 : (itT us a.toNat).2.2 - (itT us a.toNat).2.1 = 6 - pA us a.toNat := rfl
    have e3 : eA us 1 a.toNat = pA us a.toNat := by unfold eA pA; rfl
    rw [e1, e2, e3]
    grind
theorem grC_all {us : List T} (h : us.all tOk = true) {l : List Nat} (hl : l.Perm (List.range us.length)) : grC us l = rA us 1 1 (rO us 1 us.length) := by
  have lt : ∀ k ∈ l, k < us.length := fun k hk => List.mem_range.1 (hl.mem_iff.1 hk)
  have P : ((rO us 1 us.length).map Int.toNat).Perm l := by
    refine ((rO_perm us 1 us.length).map Int.toNat).trans ?_
    refine List.Perm.trans ?_ hl.symm
    unfold rng
    rw [List.map_map]
    have : (Int.toNat ∘ fun (k : Nat) => (k : Int)) = id := by funext k; simp
    rw [this, List.map_id]
  have S := rO_sorted h 1 us.length (Nat.le_refl _)
  rw [rA_gD, Int.one_mul]
  refine gB_sorted (its_ok h lt) (P.map _) ?_
  rw [List.map_map]
  refine List.Pairwise.map _ (fun a b q => ?_) S
  unfold rLe at q
  unfold gLe
  rw [decide_eq_true_eq] at q ⊢
  have e3 : ∀ a : Int, eA us 1 a.toNat = pA us a.toNat := fun a => by unfold eA pA; rfl
  rw [e3, e3] at q
  show 6 * cA us a.toNat * pA us b.toNat ≤ 6 * cA us b.toNat * pA us a.toNat
  rw [Int.mul_assoc, Int.mul_assoc]
  omega
end
section
structure CS where
  c : Nat → Int
  p : Nat → Int
  q : Nat → Int
  lA : Nat → Nat → Bool
  lB : Nat → Nat → Bool
  ch : List Nat → Nat → Nat
def rk (l : Nat → Nat → Bool) (S : List Nat) (i : Nat) : Nat := S.countP fun x => l x i
def CS.inA (C : CS) (S : List Nat) (k i : Nat) : Prop := rk C.lA S i < k
def CS.inB (C : CS) (S : List Nat) (k i : Nat) : Prop := rk C.lB S i + k ≤ S.length
/-- a strict order of all -/
structure SO (D : Nat → Prop) (l : Nat → Nat → Bool) : Prop where
  asy : ∀ a b, D a → D b → l a b = true → l b a = false
  tr : ∀ a b c, D a → D b → D c → l a b = true → l b c = true → l a c = true
  tot : ∀ a b, D a → D b → a ≠ b → l a b = true ∨ l b a = true
structure CSok (C : CS) (D : Nat → Prop) : Prop where
  c0 : ∀ i, D i → 0 ≤ C.c i
  pq : ∀ i, D i → 0 ≤ C.p i ∧ 0 ≤ C.q i ∧ C.p i + C.q i = 6
  oA : SO D C.lA
  oB : SO D C.lB
  rA : ∀ i j, D i → D j → C.lA i j = true → C.c i * C.p j ≤ C.c j * C.p i
  rB : ∀ i j, D i → D j → C.lB i j = true → C.c i * C.q j ≤ C.c j * C.q i
  ch : ∀ S k, S.Nodup → (∀ x ∈ S, D x) → 1 ≤ k → k ≤ S.length → C.ch S k ∈ S ∧ C.inA S k (C.ch S k) ∧ C.inB S k (C.ch S k)
theorem rk_erase (l : Nat → Nat → Bool) {S : List Nat} {j : Nat} (hj : j ∈ S) (i : Nat) : rk l S i = rk l (S.erase j) i + if l j i = true then 1 else 0 := by
  unfold rk
  rw [(List.perm_cons_erase hj).countP_eq, List.countP_cons]
theorem rk_mono {D : Nat → Prop} {l : Nat → Nat → Bool} (h : SO D l) {S : List Nat} (hS : ∀ x ∈ S, D x) {i j : Nat} (hi : i ∈ S) (dj : D j) (hl : l i j = true) : rk l S i < rk l S j := by
  have di := hS i hi
  have a := rk_erase l hi i
  have b := rk_erase l hi j
  have ii : l i i = false := by
    cases e : l i i with
    | false => rfl
    | true => have := h.asy i i di di e; rw [e] at this; exact this
  rw [ii] at a
  rw [hl] at b
  have m : rk l (S.erase i) i ≤ rk l (S.erase i) j := List.countP_mono_left fun x hx q => h.tr x i j (hS x (List.mem_of_mem_erase hx)) di dj q hl
  simp at a b
  omega
theorem so_max {D : Nat → Prop} {l : Nat → Nat → Bool} (h : SO D l) : ∀ {S : List Nat}, S ≠ [] → (∀ x ∈ S, D x) → ∃ M ∈ S, ∀ x ∈ S, x ≠ M → l x M = true
  | [], hn, _ => absurd rfl hn
  | [a], _, _ => ⟨a, List.mem_cons_self, fun x hx hne => absurd (List.mem_singleton.1 hx) hne⟩
  | a :: b :: r, _, hS => by
    obtain ⟨M, m1, m2⟩ := so_max h (S := b :: r) (by simp) fun x hx => hS x (List.mem_cons_of_mem _ hx)
    have da := hS a List.mem_cons_self
    have dM := hS M (List.mem_cons_of_mem _ m1)
    by_cases e : a = M
    · exact ⟨M, List.mem_cons_of_mem _ m1, fun x hx hne => (List.mem_cons.1 hx).elim (fun q => absurd (q.trans e) hne) fun q => m2 x q hne⟩
    · rcases h.tot a M da dM e with q | q
      · exact ⟨M, List.mem_cons_of_mem _ m1, fun x hx hne => (List.mem_cons.1 hx).elim (fun z => z ▸ q) fun z => m2 x z hne⟩
      · refine ⟨a, List.mem_cons_self, fun x hx hne => ?_⟩
        rcases List.mem_cons.1 hx with z | z
        · exact absurd z hne
        · by_cases e2 : x = M
          · rw [e2]; exact q
          · exact h.tr x M a (hS x hx) dM da (m2 x z e2) q
theorem rk_count {D : Nat → Prop} {l : Nat → Nat → Bool} (h : SO D l) : ∀ (n : Nat) {S : List Nat}, S.length = n → S.Nodup → (∀ x ∈ S, D x) → ∀ a, S.countP (fun i => decide (rk l S i < a)) = min a n
  | 0, S, hl, _, _, a => by
    have : S = [] := List.length_eq_zero_iff.1 hl
    subst this
    simp
  | n + 1, S, hl, nd, hS, a => by
    have hne : S ≠ [] := fun e => by rw [e] at hl; cases hl
    obtain ⟨M, m1, m2⟩ := so_max h hne hS
    have le : (S.erase M).length = n := by rw [List.length_erase_of_mem m1, hl]; rfl
    have nde := nd.erase M
    have hSe : ∀ x ∈ S.erase M, D x := fun x hx => hS x (List.mem_of_mem_erase hx)
    have ih := rk_count h n le nde hSe a
    have nM : ∀ x ∈ S.erase M, x ≠ M := fun x hx e => by rw [e] at hx; exact (List.Nodup.not_mem_erase nd) hx
    have rM : rk l S M = n := by
      rw [rk_erase l m1 M]
      have ii : l M M = false := by
        cases e : l M M with
        | false => rfl
        | true => have := h.asy M M (hS M m1) (hS M m1) e; rw [e] at this; exact this
      rw [ii]
      have : rk l (S.erase M) M = (S.erase M).length := List.countP_eq_length.2 fun x hx => m2 x (List.mem_of_mem_erase hx) (nM x hx)
      rw [this, le]
      simp
    rw [(List.perm_cons_erase m1).countP_eq, List.countP_cons, rM]
    have e : (S.erase M).countP (fun i => decide (rk l S i < a)) = (S.erase M).countP (fun i => decide (rk l (S.erase M) i < a)) := by
      refine List.countP_congr fun x hx => ?_
      have := rk_erase l m1 x
      rw [h.asy x M (hSe x hx) (hS M m1) (m2 x (List.mem_of_mem_erase hx) (nM x hx))] at this
      simp at this
      rw [this]
    rw [e, ih]
    by_cases c : n < a
    · simp [c]; omega
    · simp [c]; omega
theorem count_two {P Q : Nat → Bool} : ∀ {S : List Nat}, (∀ x ∈ S, P x = true → Q x = false) → S.countP P + S.countP Q ≤ S.length
  | [], _ => by simp
  | a :: r, h => by
    have ih := count_two (P := P) (Q := Q) (S := r) fun x hx => h x (List.mem_cons_of_mem _ hx)
    have h0 := h a List.mem_cons_self
    rw [List.countP_cons, List.countP_cons, List.length_cons]
    cases hp : P a with
    | true => rw [h0 hp]; simp; omega
    | false => cases hq : Q a <;> simp <;> omega
/-- two orders meet -/
theorem meet {D : Nat → Prop} {l l' : Nat → Nat → Bool} (h : SO D l) (h' : SO D l') {S : List Nat} (nd : S.Nodup) (hS : ∀ x ∈ S, D x) {a b : Nat} (ha : a ≤ S.length) (hb : b ≤ S.length) (hab : S.length < a + b) : ∃ i ∈ S, rk l S i < a ∧ rk l' S i < b := by
  apply Classical.byContradiction
  intro hn
  have := count_two (S := S) (P := fun i => decide (rk l S i < a)) (Q := fun i => decide (rk l' S i < b)) fun x hx hp => by
    rw [decide_eq_true_eq] at hp
    rw [decide_eq_false_iff_not]
    exact fun q => hn ⟨x, hx, hp, q⟩
  rw [rk_count h S.length rfl nd hS, rk_count h' S.length rfl nd hS] at this
  omega
/-- what the rule costs -/
def vR (C : CS) : Nat → List Nat → Nat → Int
  | 0, _, _ => 0
  | f + 1, S, k => if k = 0 ∨ S.length < k then 0 else 6 ^ S.length * C.c (C.ch S k) + C.p (C.ch S k) * vR C f (S.erase (C.ch S k)) (k - 1) + C.q (C.ch S k) * vR C f (S.erase (C.ch S k)) k
def CS.V (C : CS) (S : List Nat) (k : Nat) : Int := vR C S.length S k
def CS.W (C : CS) (S : List Nat) (k i : Nat) : Int := 6 ^ S.length * C.c i + C.p i * C.V (S.erase i) (k - 1) + C.q i * C.V (S.erase i) k
theorem V_zero (C : CS) (S : List Nat) {k : Nat} (h : k = 0 ∨ S.length < k) : C.V S k = 0 := by
  unfold CS.V
  cases S.length with
  | zero => rfl
  | succ n => simp only [vR]; rw [if_pos h]
theorem V_step {C : CS} {D : Nat → Prop} (ok : CSok C D) {S : List Nat} (nd : S.Nodup) (hS : ∀ x ∈ S, D x) {k : Nat} (h1 : 1 ≤ k) (h2 : k ≤ S.length) : C.V S k = C.W S k (C.ch S k) := by
  have hm := (ok.ch S k nd hS h1 h2).1
  have le := List.length_erase_of_mem hm
  unfold CS.W CS.V
  rw [le]
  obtain ⟨n, hn⟩ : ∃ n, S.length = n + 1 := ⟨S.length - 1, by omega⟩
  rw [hn]
  simp only [vR]
  rw [if_neg (by omega), hn]
  rfl
end
section
variable {C : CS} {D : Nat → Prop}
theorem inA_two (ok : CSok C D) {S : List Nat} (nd : S.Nodup) (hS : ∀ x ∈ S, D x) {k i j : Nat} (hi : i ∈ S) (hj : j ∈ S) (hne : i ≠ j) (ai : C.inA S k i) (aj : C.inA S k j) : C.inA (S.erase j) (k - 1) i := by
  unfold CS.inA at *
  have e := rk_erase C.lA hj i
  rcases ok.oA.tot i j (hS i hi) (hS j hj) hne with q | q
  · have m := rk_mono ok.oA hS hi (hS j hj) q
    rw [ok.oA.asy i j (hS i hi) (hS j hj) q] at e
    simp at e
    omega
  · have m := rk_mono ok.oA hS hj (hS i hi) q
    rw [q] at e
    simp at e
    omega
theorem inB_two (ok : CSok C D) {S : List Nat} (nd : S.Nodup) (hS : ∀ x ∈ S, D x) {k i j : Nat} (hi : i ∈ S) (hj : j ∈ S) (hne : i ≠ j) (ai : C.inB S k i) (aj : C.inB S k j) : C.inB (S.erase j) k i := by
  unfold CS.inB at *
  have e := rk_erase C.lB hj i
  have le := List.length_erase_of_mem hj
  have pos : 0 < S.length := List.length_pos_of_mem hj
  rcases ok.oB.tot i j (hS i hi) (hS j hj) hne with q | q
  · have m := rk_mono ok.oB hS hi (hS j hj) q
    rw [ok.oB.asy i j (hS i hi) (hS j hj) q] at e
    simp at e
    omega
  · have m := rk_mono ok.oB hS hj (hS i hi) q
    rw [q] at e
    simp at e
    omega
theorem inA_less {S : List Nat} {k i j : Nat} (hj : j ∈ S) (ai : C.inA S k i) : C.inA (S.erase j) k i := by
  unfold CS.inA at *
  have e := rk_erase C.lA hj i
  omega
theorem inB_less {S : List Nat} {k i j : Nat} (hj : j ∈ S) (hk : 1 ≤ k) (ai : C.inB S k i) : C.inB (S.erase j) (k - 1) i := by
  unfold CS.inB at *
  have e := rk_erase C.lB hj i
  have le := List.length_erase_of_mem hj
  have pos : 0 < S.length := List.length_pos_of_mem hj
  omega
/-- what is said of all sets of so many tests -/
structure CM (C : CS) (D : Nat → Prop) (n : Nat) : Prop where
  E : ∀ S : List Nat, S.length = n → S.Nodup → (∀ x ∈ S, D x) → ∀ k i, 1 ≤ k → k ≤ n → i ∈ S → C.inA S k i → C.inB S k i → C.V S k = C.W S k i
  L : ∀ T : List Nat, T.length = n → T.Nodup → (∀ x ∈ T, D x) → ∀ k y z, 1 ≤ k → k + 1 ≤ n → y ∈ T → z ∈ T → y ≠ z → C.inA (T.erase z) k y → C.c y * C.q z ≤ C.c z * C.q y →
    (C.V (T.erase y) k - 6 * C.V ((T.erase z).erase y) (k - 1)) * C.q y ≤ (C.V (T.erase z) k - 6 * C.V ((T.erase z).erase y) (k - 1)) * C.q z + 6 ^ (n - 1) * (C.c z * C.q y - C.c y * C.q z)
  R : ∀ S : List Nat, S.length = n → S.Nodup → (∀ x ∈ S, D x) → ∀ k j, 1 ≤ k → k ≤ n → j ∈ S → C.V S k ≤ C.W S k j
theorem cE (ok : CSok C D) {n : Nat} (ih : CM C D n) : ∀ S : List Nat, S.length = n + 1 → S.Nodup → (∀ x ∈ S, D x) → ∀ k i, 1 ≤ k → k ≤ n + 1 → i ∈ S → C.inA S k i → C.inB S k i → C.V S k = C.W S k i := by
  intro S hl nd hS k i h1 h2 hi ai bi
  obtain ⟨m, am, bm⟩ := ok.ch S k nd hS h1 (by omega)
  rw [V_step ok nd hS h1 (by omega)]
  generalize C.ch S k = j at *
  by_cases e : i = j
  · rw [e]
  have si := List.length_erase_of_mem hi
  have sj := List.length_erase_of_mem m
  have nde : ∀ x, (S.erase x).Nodup := fun x => nd.erase x
  have hSe : ∀ y, ∀ x ∈ S.erase y, D x := fun y x hx => hS x (List.mem_of_mem_erase hx)
  have ij : i ∈ S.erase j := (List.mem_erase_of_ne e).2 hi
  have ji : j ∈ S.erase i := (List.mem_erase_of_ne (Ne.symm e)).2 m
  have a1 := inA_two ok nd hS hi m e ai am
  have a2 := inA_two ok nd hS m hi (Ne.symm e) am ai
  have b1 := inB_two ok nd hS hi m e bi bm
  have b2 := inB_two ok nd hS m hi (Ne.symm e) bm bi
  have k1 : 2 ≤ k := by unfold CS.inA at a1; omega
  have k2 : k ≤ n := by unfold CS.inB at b1; omega
  have w1 := ih.E (S.erase j) (by omega) (nde j) (hSe j) (k - 1) i (by omega) (by omega) ij a1 (inB_less m (by omega) bi)
  have w2 := ih.E (S.erase j) (by omega) (nde j) (hSe j) k i (by omega) (by omega) ij (inA_less m ai) b1
  have w3 := ih.E (S.erase i) (by omega) (nde i) (hSe i) (k - 1) j (by omega) (by omega) ji a2 (inB_less hi (by omega) bm)
  have w4 := ih.E (S.erase i) (by omega) (nde i) (hSe i) k j (by omega) (by omega) ji (inA_less hi am) b2
  have ec : (S.erase i).erase j = (S.erase j).erase i := List.erase_comm ..
  unfold CS.W at *
  rw [w1, w2, w3, w4, ec, si, sj, hl]
  have p6 : (6 : Int) ^ (n + 1) = 6 * 6 ^ (n + 1 - 1) := by rw [Nat.add_sub_cancel, Int.pow_succ, Int.mul_comm]
  rw [p6]
  have pi := (ok.pq i (hS i hi)).2.2
  have pj := (ok.pq j (hS j m)).2.2
  have qi : C.q i = 6 - C.p i := by omega
  have qj : C.q j = 6 - C.p j := by omega
  rw [qi, qj]
  generalize (6 : Int) ^ (n + 1 - 1) = X
  generalize C.V ((S.erase j).erase i) (k - 1 - 1) = v1
  generalize C.V ((S.erase j).erase i) (k - 1) = v2
  generalize C.V ((S.erase j).erase i) k = v3
  grind
theorem cL (ok : CSok C D) {n : Nat} (ih : CM C D n) (ih' : ∀ m, m + 1 = n → CM C D m) : ∀ T : List Nat, T.length = n + 1 → T.Nodup → (∀ x ∈ T, D x) → ∀ k y z, 1 ≤ k → k + 1 ≤ n + 1 → y ∈ T → z ∈ T → y ≠ z → C.inA (T.erase z) k y → C.c y * C.q z ≤ C.c z * C.q y →
    (C.V (T.erase y) k - 6 * C.V ((T.erase z).erase y) (k - 1)) * C.q y ≤ (C.V (T.erase z) k - 6 * C.V ((T.erase z).erase y) (k - 1)) * C.q z + 6 ^ (n + 1 - 1) * (C.c z * C.q y - C.c y * C.q z) := by
  intro T hl nd hT k y z h1 h2 hy hz hne ay hyz
  have dy := hT y hy
  have dz := hT z hz
  have ly := List.length_erase_of_mem hy
  have lz := List.length_erase_of_mem hz
  have nde : ∀ x, (T.erase x).Nodup := fun x => nd.erase x
  have hTe : ∀ y, ∀ x ∈ T.erase y, D x := fun y x hx => hT x (List.mem_of_mem_erase hx)
  have yz : y ∈ T.erase z := (List.mem_erase_of_ne hne).2 hy
  have zy : z ∈ T.erase y := (List.mem_erase_of_ne (Ne.symm hne)).2 hz
  have ec : (T.erase y).erase z = (T.erase z).erase y := List.erase_comm ..
  obtain ⟨pz0, qz0, pz⟩ := ok.pq z dz
  obtain ⟨py0, qy0, py⟩ := ok.pq y dy
  by_cases by_ : C.inB (T.erase z) k y
  · have w1 := ih.E (T.erase z) (by omega) (nde z) (hTe z) k y h1 (by omega) yz ay by_
    have w2 := ih.R (T.erase y) (by omega) (nde y) (hTe y) k z h1 (by omega) zy
    unfold CS.W at w1 w2
    rw [ec] at w2
    rw [ly, hl] at w2
    rw [w1, lz, hl]
    generalize C.V ((T.erase z).erase y) (k - 1) = v1 at *
    generalize C.V ((T.erase z).erase y) k = v2 at *
    generalize C.V (T.erase y) k = v at *
    generalize (6 : Int) ^ (n + 1 - 1) = X at *
    have m := Int.mul_le_mul_of_nonneg_right w2 qy0
    have e1 : C.p z = 6 - C.q z := by omega
    have e2 : C.p y = 6 - C.q y := by omega
    rw [e1] at m
    rw [e2]
    grind
  · obtain ⟨i, hi, ai, bi⟩ := meet ok.oA ok.oB (nde z) (hTe z) (a := k) (b := (T.erase z).length + 1 - k) (by omega) (by omega) (by omega)
    have bi' : C.inB (T.erase z) k i := by unfold CS.inB; omega
    have iy : i ≠ y := fun e => by_ (e ▸ bi')
    have iz : i ≠ z := fun e => by rw [e] at hi; exact List.Nodup.not_mem_erase nd hi
    have hiT := List.mem_of_mem_erase hi
    have di := hT i hiT
    obtain ⟨pi0, qi0, pi⟩ := ok.pq i di
    have iTy : i ∈ T.erase y := (List.mem_erase_of_ne iy).2 hiT
    have iU : i ∈ (T.erase z).erase y := (List.mem_erase_of_ne iy).2 hi
    have lU := List.length_erase_of_mem yz
    have aU := inA_two ok (nde z) (hTe z) hi yz iy ai ay
    have ay2 := inA_two ok (nde z) (hTe z) yz hi (Ne.symm iy) ay ai
    have bU := inB_less (C := C) yz h1 bi'
    have k2 : 2 ≤ k := by unfold CS.inA at aU; omega
    obtain ⟨m, rfl⟩ : ∃ m, n = m + 1 := ⟨n - 1, by omega⟩
    have IH := ih' m rfl
    have w1 := ih.E (T.erase z) (by omega) (nde z) (hTe z) k i h1 (by omega) hi ai bi'
    have w2 := ih.R (T.erase y) (by omega) (nde y) (hTe y) k i h1 (by omega) iTy
    have w3 := IH.E ((T.erase z).erase y) (by omega) ((nde z).erase y) (fun x hx => hTe z x (List.mem_of_mem_erase hx)) (k - 1) i (by omega) (by omega) iU aU bU
    have li := List.length_erase_of_mem hiT
    have yT' : y ∈ T.erase i := (List.mem_erase_of_ne (Ne.symm iy)).2 hy
    have zT' : z ∈ T.erase i := (List.mem_erase_of_ne (Ne.symm iz)).2 hz
    have c1 : (T.erase i).erase z = (T.erase z).erase i := List.erase_comm ..
    have c2 : (T.erase i).erase y = (T.erase y).erase i := List.erase_comm ..
    have c3 : ((T.erase z).erase i).erase y = ((T.erase z).erase y).erase i := List.erase_comm ..
    have r1 := ih.L (T.erase i) (by omega) (nde i) (hTe i) (k - 1) y z (by omega) (by omega) yT' zT' hne (by rw [c1]; exact ay2) hyz
    rw [c1, c2, c3] at r1
    have r2 : (C.V ((T.erase y).erase i) k - 6 * C.V (((T.erase z).erase y).erase i) (k - 1)) * C.q y ≤ (C.V ((T.erase z).erase i) k - 6 * C.V (((T.erase z).erase y).erase i) (k - 1)) * C.q z + 6 ^ (m + 1 - 1) * (C.c z * C.q y - C.c y * C.q z) := by
      by_cases hk : k + 1 ≤ m + 1
      · have r2 := ih.L (T.erase i) (by omega) (nde i) (hTe i) k y z h1 hk yT' zT' hne (by rw [c1]; exact inA_less hi ay) hyz
        rw [c1, c2, c3] at r2
        exact r2
      · have lzi := List.length_erase_of_mem hi
        have lyi := List.length_erase_of_mem iTy
        have lUi := List.length_erase_of_mem iU
        rw [V_zero C ((T.erase y).erase i) (.inr (by omega)), V_zero C ((T.erase z).erase i) (.inr (by omega)), V_zero C (((T.erase z).erase y).erase i) (.inr (by omega))]
        have := Int.mul_nonneg (show (0 : Int) ≤ 6 ^ (m + 1 - 1) from Int.pow_nonneg (by omega)) (show 0 ≤ C.c z * C.q y - C.c y * C.q z by omega)
        simp
        simpa using this
    unfold CS.W at w1 w2 w3
    rw [ly, hl] at w2
    rw [w1, w3, lz, hl, lU, lz, hl]
    have x1 : (6 : Int) ^ (m + 1 + 1 - 1) = 6 * 6 ^ m := by rw [show m + 1 + 1 - 1 = m + 1 by omega, Int.pow_succ, Int.mul_comm]
    have x2 : (6 : Int) ^ (m + 1 + 1 - 1 - 1) = 6 ^ m := by rw [show m + 1 + 1 - 1 - 1 = m by omega]
    have x3 : (6 : Int) ^ (m + 1 - 1) = 6 ^ m := by rw [show m + 1 - 1 = m by omega]
    rw [x1] at w2 ⊢
    rw [x2]
    rw [x3] at r1 r2
    have m0 := Int.mul_le_mul_of_nonneg_right w2 qy0
    have m1 := Int.mul_le_mul_of_nonneg_left r1 pi0
    have m2 := Int.mul_le_mul_of_nonneg_left r2 qi0
    generalize C.V ((T.erase y).erase i) (k - 1) = a1 at *
    generalize C.V ((T.erase y).erase i) k = a2 at *
    generalize C.V ((T.erase z).erase i) (k - 1) = b1 at *
    generalize C.V ((T.erase z).erase i) k = b2 at *
    generalize C.V (((T.erase z).erase y).erase i) (k - 1 - 1) = d1 at *
    generalize C.V (((T.erase z).erase y).erase i) (k - 1) = d2 at *
    generalize C.V (T.erase y) k = v at *
    generalize (6 : Int) ^ m = X at *
    have e1 : C.q i = 6 - C.p i := by omega
    rw [e1] at m0 m2 ⊢
    clear w1 w2 w3 r1 r2 x1 x2 x3
    grind
end
section
variable {C : CS} {D : Nat → Prop}
theorem half_alg {ci cj p r X X1 Y1 a1 a2 b2 : Int} (m : p * a1 ≤ p * (X * cj + r * X1 + (6 - r) * Y1)) (l : (a2 - 6 * Y1) * (6 - p) ≤ (b2 - 6 * Y1) * (6 - r) + X * (cj * (6 - p) - ci * (6 - r))) :
    6 * X * ci + p * a1 + (6 - p) * a2 ≤ 6 * X * cj + r * (X * ci + p * X1 + (6 - p) * Y1) + (6 - r) * b2 := by
  grind
theorem cHalf (ok : CSok C D) {n : Nat} (ih : CM C D n) (ih' : ∀ m, m + 1 = n → CM C D m) : ∀ S : List Nat, S.length = n + 1 → S.Nodup → (∀ x ∈ S, D x) → ∀ k j, 1 ≤ k → k ≤ n + 1 → j ∈ S → ¬ C.inB S k j → C.V S k ≤ C.W S k j := by
  intro S hl nd hS k j h1 h2 hj nb
  have lj := List.length_erase_of_mem hj
  have nde : ∀ x, (S.erase x).Nodup := fun x => nd.erase x
  have hSe : ∀ y, ∀ x ∈ S.erase y, D x := fun y x hx => hS x (List.mem_of_mem_erase hx)
  have dj := hS j hj
  have irr : ∀ l, SO D l → l j j = false := fun l h => by
    cases e : l j j with
    | false => rfl
    | true => have := h.asy j j dj dj e; rw [e] at this; exact this
  obtain ⟨i, hi, hne, ai, bi, ai', bi'⟩ : ∃ i, i ∈ S ∧ i ≠ j ∧ C.inA S k i ∧ C.inB S k i ∧ C.inA (S.erase j) (k - 1) i ∧ C.inB (S.erase j) (k - 1) i := by
    by_cases aj : C.inA S k j
    · obtain ⟨i, hi, ai, bi⟩ := meet ok.oA ok.oB nd hS (a := k) (b := S.length + 1 - k) (by omega) (by omega) (by omega)
      have bi' : C.inB S k i := by unfold CS.inB; omega
      have hne : i ≠ j := fun e => nb (e ▸ bi')
      exact ⟨i, hi, hne, ai, bi', inA_two ok nd hS hi hj hne ai aj, inB_less hj h1 bi'⟩
    · have k2 : 2 ≤ k := by
        apply Classical.byContradiction
        intro hk
        have k1 : k = 1 := by omega
        subst k1
        apply nb
        have e := rk_erase C.lB hj j
        rw [irr _ ok.oB] at e
        have : rk C.lB (S.erase j) j ≤ (S.erase j).length := List.countP_le_length
        simp at e
        unfold CS.inB
        omega
      obtain ⟨i, hi, ai, bi⟩ := meet ok.oA ok.oB (nde j) (hSe j) (a := k - 1) (b := S.length + 1 - k) (by omega) (by omega) (by omega)
      have hiS := List.mem_of_mem_erase hi
      have hne : i ≠ j := fun e => by rw [e] at hi; exact List.Nodup.not_mem_erase nd hi
      have eA := rk_erase C.lA hj i
      have eB := rk_erase C.lB hj i
      refine ⟨i, hiS, hne, ?_, ?_, ai, by unfold CS.inB; omega⟩
      · unfold CS.inA
        split at eA <;> omega
      · unfold CS.inB at nb ⊢
        by_cases q : C.lB j i = true
        · have m := rk_mono ok.oB hS hj (hS i hiS) q
          rw [if_pos q] at eB
          omega
        · rw [if_neg q] at eB
          omega
  have di := hS i hi
  have li := List.length_erase_of_mem hi
  have bij : C.c i * C.q j ≤ C.c j * C.q i := by
    rcases ok.oB.tot i j di dj hne with q | q
    · exact ok.rB i j di dj q
    · have m := rk_mono ok.oB hS hj di q
      unfold CS.inB at nb bi
      omega
  have k2 : 2 ≤ k := by unfold CS.inA at ai'; omega
  have ij : i ∈ S.erase j := (List.mem_erase_of_ne hne).2 hi
  have ji : j ∈ S.erase i := (List.mem_erase_of_ne (Ne.symm hne)).2 hj
  have ec : (S.erase i).erase j = (S.erase j).erase i := List.erase_comm ..
  have w0 := cE ok ih S hl nd hS k i h1 h2 hi ai bi
  have w1 := ih.E (S.erase j) (by omega) (nde j) (hSe j) (k - 1) i (by omega) (by omega) ij ai' bi'
  have w2 := ih.R (S.erase i) (by omega) (nde i) (hSe i) (k - 1) j (by omega) (by omega) ji
  obtain ⟨pi0, qi0, pi⟩ := ok.pq i di
  obtain ⟨pj0, qj0, pj⟩ := ok.pq j dj
  have l : (C.V (S.erase i) k - 6 * C.V ((S.erase j).erase i) (k - 1)) * C.q i ≤ (C.V (S.erase j) k - 6 * C.V ((S.erase j).erase i) (k - 1)) * C.q j + 6 ^ n * (C.c j * C.q i - C.c i * C.q j) := by
    by_cases hk : k + 1 ≤ n + 1
    · have := cL ok ih ih' S hl nd hS k i j h1 hk hi hj hne (inA_less hj ai) bij
      rw [Nat.add_sub_cancel] at this
      exact this
    · have lji := List.length_erase_of_mem ij
      rw [V_zero C (S.erase i) (.inr (by omega)), V_zero C (S.erase j) (.inr (by omega)), V_zero C ((S.erase j).erase i) (.inr (by omega))]
      have := Int.mul_nonneg (show (0 : Int) ≤ 6 ^ n from Int.pow_nonneg (by omega)) (show 0 ≤ C.c j * C.q i - C.c i * C.q j by omega)
      simp
      simpa using this
  unfold CS.W at *
  rw [ec, li, hl, Nat.add_sub_cancel] at w2
  rw [lj, hl, Nat.add_sub_cancel] at w1
  rw [w0, w1, hl]
  have x1 : (6 : Int) ^ (n + 1) = 6 * 6 ^ n := by rw [Int.pow_succ, Int.mul_comm]
  rw [x1]
  have m := Int.mul_le_mul_of_nonneg_left w2 pi0
  have e1 : C.q i = 6 - C.p i := by omega
  have e2 : C.q j = 6 - C.p j := by omega
  rw [e2] at m
  rw [e1, e2] at l
  rw [e1, e2]
  exact half_alg m l
def CS.dual (C : CS) : CS := ⟨C.c, C.q, C.p, C.lB, C.lA, fun S k => C.ch S (S.length + 1 - k)⟩
theorem dual_ok (ok : CSok C D) : CSok C.dual D := by
  refine ⟨ok.c0, fun i hi => ?_, ok.oB, ok.oA, ok.rB, ok.rA, fun S k nd hS h1 h2 => ?_⟩
  · obtain ⟨a, b, c⟩ := ok.pq i hi
    exact ⟨b, a, by show C.q i + C.p i = 6; omega⟩
  · obtain ⟨a, b, c⟩ := ok.ch S (S.length + 1 - k) nd hS (by omega) (by omega)
    refine ⟨a, ?_, ?_⟩
    · show rk C.lB S _ < k
      unfold CS.inB at c
      show rk C.lB S (C.ch S (S.length + 1 - k)) < k
      omega
    · show rk C.lA S (C.ch S (S.length + 1 - k)) + k ≤ S.length
      unfold CS.inA at b
      omega
theorem dual_V (ok : CSok C D) : ∀ (n : Nat) (S : List Nat), S.length = n → S.Nodup → (∀ x ∈ S, D x) → ∀ k, k ≤ n + 1 → C.dual.V S k = C.V S (n + 1 - k)
  | 0, S, hl, _, _, k, _ => by
    have : S = [] := List.length_eq_zero_iff.1 hl
    subst this
    rfl
  | n + 1, S, hl, nd, hS, k, hk => by
    by_cases k0 : k = 0
    · rw [V_zero C.dual S (.inl k0), V_zero C S (.inr (by omega))]
    · by_cases k1 : k = n + 2
      · rw [V_zero C.dual S (.inr (by omega)), V_zero C S (.inl (by omega))]
      · have h1 : 1 ≤ k := by omega
        have h2 : k ≤ S.length := by omega
        have hm := (ok.ch S (n + 1 + 1 - k) nd hS (by omega) (by omega)).1
        rw [V_step (dual_ok ok) nd hS h1 h2, V_step ok nd hS (k := n + 1 + 1 - k) (by omega) (by omega)]
        have e : C.dual.ch S k = C.ch S (n + 1 + 1 - k) := by show C.ch S (S.length + 1 - k) = _; rw [hl]
        rw [e]
        generalize C.ch S (n + 1 + 1 - k) = i at *
        have li := List.length_erase_of_mem hm
        have nde := nd.erase i
        have hSe : ∀ x ∈ S.erase i, D x := fun x hx => hS x (List.mem_of_mem_erase hx)
        have a := dual_V ok n (S.erase i) (by omega) nde hSe (k - 1) (by omega)
        have b := dual_V ok n (S.erase i) (by omega) nde hSe k (by omega)
        unfold CS.W
        rw [a, b]
        have c1 : C.dual.c i = C.c i := rfl
        have c2 : C.dual.p i = C.q i := rfl
        have c3 : C.dual.q i = C.p i := rfl
        rw [c1, c2, c3, show n + 1 - (k - 1) = n + 1 + 1 - k by omega, show n + 1 - k = n + 1 + 1 - k - 1 by omega]
        omega
theorem cMain : ∀ n : Nat, (∀ C : CS, CSok C D → CM C D n) ∧ ∀ m, m + 1 = n → ∀ C : CS, CSok C D → CM C D m
  | 0 => ⟨fun C ok => ⟨fun S _ _ _ k i h1 h2 => by omega, fun T _ _ _ k y z h1 h2 => by omega, fun S _ _ _ k j h1 h2 => by omega⟩, fun m hm => by omega⟩
  | n + 1 => by
    obtain ⟨i1, i2⟩ := cMain n
    refine ⟨fun C ok => ⟨cE ok (i1 C ok), cL ok (i1 C ok) (fun m hm => i2 m hm C ok), fun S hl nd hS k j h1 h2 hj => ?_⟩, fun m hm C ok => by
      have : m = n := by omega
      rw [this]
      exact i1 C ok⟩
    by_cases nb : C.inB S k j
    · by_cases na : C.inA S k j
      · rw [cE ok (i1 C ok) S hl nd hS k j h1 h2 hj na nb]
        exact Int.le_refl _
      · have dk := dual_ok ok
        have h := cHalf dk (i1 _ dk) (fun m hm => i2 m hm _ dk) S hl nd hS (n + 2 - k) j (by omega) (by omega) hj (fun q => na (by
          have q' : rk C.lA S j + (n + 2 - k) ≤ S.length := q
          unfold CS.inA
          omega))
        have lj := List.length_erase_of_mem hj
        have a := dual_V ok (n + 1) S hl nd hS (n + 2 - k) (by omega)
        have b := dual_V ok n (S.erase j) (by omega) (nd.erase j) (fun x hx => hS x (List.mem_of_mem_erase hx)) (n + 2 - k - 1) (by omega)
        have c := dual_V ok n (S.erase j) (by omega) (nd.erase j) (fun x hx => hS x (List.mem_of_mem_erase hx)) (n + 2 - k) (by omega)
        unfold CS.W at h
        rw [a, b, c, show n + 1 + 1 - (n + 2 - k) = k by omega, show n + 1 - (n + 2 - k - 1) = k by omega, show n + 1 - (n + 2 - k) = k - 1 by omega] at h
        have c1 : C.dual.c j = C.c j := rfl
        have c2 : C.dual.p j = C.q j := rfl
        have c3 : C.dual.q j = C.p j := rfl
        rw [c1, c2, c3] at h
        unfold CS.W
        omega
    · exact cHalf ok (i1 C ok) (fun m hm => i2 m hm C ok) S hl nd hS k j h1 h2 hj nb
/-- no way to count is better than the rule -/
theorem count_rule (ok : CSok C D) {S : List Nat} (nd : S.Nodup) (hS : ∀ x ∈ S, D x) {k j : Nat} (h1 : 1 ≤ k) (h2 : k ≤ S.length) (hj : j ∈ S) : C.V S k ≤ C.W S k j :=
  ((cMain (D := D) S.length).1 C ok).R S rfl nd hS k j h1 h2 hj
end
section
theorem V_uniq {C C' : CS} {D : Nat → Prop} (ok : CSok C D) (ok' : CSok C' D) (hc : ∀ i, D i → C.c i = C'.c i) (hp : ∀ i, D i → C.p i = C'.p i) (hA : ∀ i j, D i → D j → C.lA i j = C'.lA i j) (hB : ∀ i j, D i → D j → C.lB i j = C'.lB i j) :
    ∀ (n : Nat) (S : List Nat), S.length = n → S.Nodup → (∀ x ∈ S, D x) → ∀ k, C.V S k = C'.V S k
  | 0, S, hl, _, _, k => by
    have : S = [] := List.length_eq_zero_iff.1 hl
    subst this
    rfl
  | n + 1, S, hl, nd, hS, k => by
    by_cases hk : 1 ≤ k ∧ k ≤ n + 1
    · obtain ⟨m, a, b⟩ := ok'.ch S k nd hS hk.1 (by omega)
      have rA : ∀ i, D i → rk C.lA S i = rk C'.lA S i := fun i di => List.countP_congr fun x hx => by rw [hA x i (hS x hx) di]
      have rB : ∀ i, D i → rk C.lB S i = rk C'.lB S i := fun i di => List.countP_congr fun x hx => by rw [hB x i (hS x hx) di]
      have dm := hS _ m
      have v := ((cMain (D := D) (n + 1)).1 C ok).E S hl nd hS k (C'.ch S k) hk.1 hk.2 m (by unfold CS.inA at a ⊢; rw [rA _ dm]; exact a) (by unfold CS.inB at b ⊢; rw [rB _ dm]; exact b)
      rw [v, V_step ok' nd hS hk.1 (by omega)]
      generalize C'.ch S k = i at *
      have li := List.length_erase_of_mem m
      have hSe : ∀ x ∈ S.erase i, D x := fun x hx => hS x (List.mem_of_mem_erase hx)
      have q : C.q i = C'.q i := by
        have x1 := (ok.pq i dm).2.2
        have x2 := (ok'.pq i dm).2.2
        have x3 := hp i dm
        omega
      unfold CS.W
      rw [hc i dm, hp i dm, q, V_uniq ok ok' hc hp hA hB n (S.erase i) (by omega) (nd.erase i) hSe (k - 1), V_uniq ok ok' hc hp hA hB n (S.erase i) (by omega) (nd.erase i) hSe k]
    · rw [V_zero C S (by omega), V_zero C' S (by omega)]
theorem sum_permI {l l' : List Int} (h : l.Perm l') : l.sum = l'.sum := by
  induction h with
  | nil => rfl
  | cons x _ ih => simp only [List.sum_cons]; rw [ih]
  | swap x y l => simp only [List.sum_cons]; omega
  | trans _ _ a b => exact a.trans b
theorem bd_alg {X c r v1 v2 s : Int} (h0 : 0 ≤ X * c) (m1 : r * v1 ≤ r * (X * s)) (m2 : (6 - r) * v2 ≤ (6 - r) * (X * s)) (n1 : 0 ≤ r * v1) (n2 : 0 ≤ (6 - r) * v2) : 0 ≤ 6 * X * c + r * v1 + (6 - r) * v2 ∧ 6 * X * c + r * v1 + (6 - r) * v2 ≤ 6 * X * (c + s) := by
  constructor
  · have : 6 * X * c = 6 * (X * c) := by rw [Int.mul_assoc]
    omega
  · grind
theorem V_bd {C : CS} {D : Nat → Prop} (ok : CSok C D) : ∀ (n : Nat) (S : List Nat), S.length = n → S.Nodup → (∀ x ∈ S, D x) → ∀ k, 0 ≤ C.V S k ∧ C.V S k ≤ 6 ^ n * (S.map C.c).sum
  | 0, S, hl, _, _, k => by
    have : S = [] := List.length_eq_zero_iff.1 hl
    subst this
    exact ⟨Int.le_refl _, by simp [CS.V, vR]⟩
  | n + 1, S, hl, nd, hS, k => by
    by_cases hk : 1 ≤ k ∧ k ≤ n + 1
    · obtain ⟨m, _, _⟩ := ok.ch S k nd hS hk.1 (by omega)
      rw [V_step ok nd hS hk.1 (by omega)]
      generalize C.ch S k = i at *
      have di := hS i m
      have li := List.length_erase_of_mem m
      have hSe : ∀ x ∈ S.erase i, D x := fun x hx => hS x (List.mem_of_mem_erase hx)
      obtain ⟨a1, a2⟩ := V_bd ok n (S.erase i) (by omega) (nd.erase i) hSe (k - 1)
      obtain ⟨b1, b2⟩ := V_bd ok n (S.erase i) (by omega) (nd.erase i) hSe k
      obtain ⟨p0, q0, pq⟩ := ok.pq i di
      have c0 := ok.c0 i di
      have xp : (0 : Int) ≤ 6 ^ n := Int.pow_nonneg (by omega)
      have sm : (S.map C.c).sum = C.c i + ((S.erase i).map C.c).sum := by
        have := sum_permI ((List.perm_cons_erase m).map C.c)
        rw [this]
        simp
      have x1 : (6 : Int) ^ (n + 1) = 6 * 6 ^ n := by rw [Int.pow_succ, Int.mul_comm]
      unfold CS.W
      rw [hl, sm, x1]
      have m1 := Int.mul_le_mul_of_nonneg_left a2 p0
      have m2 := Int.mul_le_mul_of_nonneg_left b2 q0
      have n1 := Int.mul_nonneg p0 a1
      have n2 := Int.mul_nonneg q0 b1
      have n3 := Int.mul_nonneg xp c0
      have e : C.q i = 6 - C.p i := by omega
      rw [e] at m2 n2 ⊢
      exact bd_alg n3 m1 m2 n1 n2
    · rw [V_zero C S (by omega)]
      refine ⟨Int.le_refl _, Int.mul_nonneg (Int.pow_nonneg (by omega)) ?_⟩
      have : ∀ l : List Nat, (∀ x ∈ l, D x) → 0 ≤ (l.map C.c).sum := fun l => by
        induction l with
        | nil => simp
        | cons a r ih =>
          intro h
          have := ih fun x hx => h x (List.mem_cons_of_mem _ hx)
          have := ok.c0 a (h a List.mem_cons_self)
          simp only [List.map_cons, List.sum_cons]
          omega
      exact this S hS
/-- tests, the two orders by ratios, and the least test of both -/
def tltA (us : List T) (a b : Nat) : Bool := decide (cA us a * pA us b < cA us b * pA us a ∨ cA us b * pA us a = cA us a * pA us b ∧ a < b)
def tltB (us : List T) (a b : Nat) : Bool := decide (cA us a * (6 - pA us b) < cA us b * (6 - pA us a) ∨ cA us b * (6 - pA us a) = cA us a * (6 - pA us b) ∧ a < b)
def bothL (us : List T) (S : List Nat) (k : Nat) : List Nat := S.filter fun i => decide (rk (tltA us) S i < k) && decide (rk (tltB us) S i + k ≤ S.length)
def cs (us : List T) : CS := ⟨cA us, pA us, fun i => 6 - pA us i, tltA us, tltB us, fun S k => (bothL us S k).headD 0⟩
theorem lt_so {c p : Nat → Int} {D : Nat → Prop} (hp : ∀ i, D i → 1 ≤ p i) : SO D fun a b => decide (c a * p b < c b * p a ∨ c b * p a = c a * p b ∧ a < b) := by
  refine ⟨fun a b _ _ h => ?_, fun a b d ha hb hd h1 h2 => ?_, fun a b _ _ hne => ?_⟩
  · simp only [decide_eq_true_eq, decide_eq_false_iff_not] at h ⊢
    omega
  · simp only [decide_eq_true_eq] at h1 h2 ⊢
    have ha := hp a ha
    have hb := hp b hb
    have hd := hp d hd
    revert h1 h2 ha hb hd
    generalize c a = x
    generalize c b = y
    generalize c d = z
    generalize p a = o
    generalize p b = q
    generalize p d = r
    intro h1 h2 ha hb hd
    have k1 : x * q ≤ y * o := by omega
    have k2 : y * r ≤ z * q := by omega
    have m1 := Int.mul_le_mul_of_nonneg_right k1 (show 0 ≤ r by omega)
    have m2 := Int.mul_le_mul_of_nonneg_right k2 (show 0 ≤ o by omega)
    have e1 : x * q * r = x * r * q := by grind
    have e2 : y * o * r = y * r * o := by grind
    have e3 : z * q * o = z * o * q := by grind
    have le : x * r ≤ z * o := by
      refine Int.le_of_mul_le_mul_right (a := q) ?_ (by omega)
      omega
    by_cases e : x * r = z * o
    · right
      have s : x * r * q = z * o * q := by rw [e]
      have t1 : x * q * r = y * o * r := by omega
      have t2 : y * r * o = z * q * o := by omega
      have u1 : x * q = y * o := Int.eq_of_mul_eq_mul_right (by omega) t1
      have u2 : y * r = z * q := Int.eq_of_mul_eq_mul_right (by omega) t2
      refine ⟨e.symm, ?_⟩
      omega
    · left
      omega
  · simp only [decide_eq_true_eq]
    omega
theorem cs_ok {us : List T} (h : us.all tOk = true) : CSok (cs us) fun i => i < us.length := by
  have oA : SO (fun i => i < us.length) (tltA us) := lt_so (c := cA us) (p := pA us) fun i hi => (pA_bd h hi).1
  have oB : SO (fun i => i < us.length) (tltB us) := lt_so (c := cA us) (p := fun i => 6 - pA us i) fun i hi => by have := pA_bd h hi; show 1 ≤ 6 - pA us i; omega
  refine ⟨fun i _ => (cA_nn h i).1, fun i hi => ?_, oA, oB, fun i j _ _ q => ?_, fun i j _ _ q => ?_, fun S k nd hS h1 h2 => ?_⟩
  · have := pA_bd h hi
    show 0 ≤ pA us i ∧ 0 ≤ 6 - pA us i ∧ pA us i + (6 - pA us i) = 6
    omega
  · have q' : tltA us i j = true := q
    unfold tltA at q'
    rw [decide_eq_true_eq] at q'
    show cA us i * pA us j ≤ cA us j * pA us i
    omega
  · have q' : tltB us i j = true := q
    unfold tltB at q'
    rw [decide_eq_true_eq] at q'
    show cA us i * (6 - pA us j) ≤ cA us j * (6 - pA us i)
    omega
  · obtain ⟨i, hi, a, b⟩ := meet oA oB nd hS (a := k) (b := S.length + 1 - k) (by omega) (by omega) (by omega)
    have hm : i ∈ bothL us S k := List.mem_filter.2 ⟨hi, by simp; omega⟩
    have hh : (bothL us S k).headD 0 ∈ bothL us S k := by
      cases e : bothL us S k with
      | nil => rw [e] at hm; cases hm
      | cons x r => exact List.mem_cons_self
    obtain ⟨g1, g2⟩ := List.mem_filter.1 hh
    rw [Bool.and_eq_true, decide_eq_true_eq, decide_eq_true_eq] at g2
    exact ⟨g1, g2.1, g2.2⟩
end
section
theorem V_one {us : List T} (h : us.all tOk = true) : ∀ (n : Nat) (S : List Nat), S.length = n → S.Nodup → (∀ x ∈ S, x < us.length) → (cs us).V S 1 = grC us S
  | 0, S, hl, _, _ => by
    have : S = [] := List.length_eq_zero_iff.1 hl
    subst this
    rfl
  | n + 1, S, hl, nd, hS => by
    have ok := cs_ok h
    obtain ⟨m, a, _⟩ := ok.ch S 1 nd hS (Nat.le_refl _) (by omega)
    rw [V_step ok nd hS (Nat.le_refl _) (by omega)]
    generalize (cs us).ch S 1 = i at *
    have li := List.length_erase_of_mem m
    have hSe : ∀ x ∈ S.erase i, x < us.length := fun x hx => hS x (List.mem_of_mem_erase hx)
    have ih := V_one h n (S.erase i) (by omega) (nd.erase i) hSe
    unfold CS.W
    rw [V_zero (cs us) (S.erase i) (k := 1 - 1) (.inl rfl), ih, hl]
    have z : ∀ x ∈ S, tltA us x i = false := fun x hx => by
      have a' : rk (tltA us) S i < 1 := a
      have := List.countP_eq_zero.1 (show S.countP (fun x => tltA us x i) = 0 by unfold rk at a'; omega) x hx
      simpa using this
    have P : (itT us i :: srtI ((S.erase i).map (itT us))).Perm (S.map (itT us)) := (((srtI_perm _).cons _).trans (by rw [← List.map_cons])).trans (((List.perm_cons_erase m).map (itT us)).symm)
    have B : grC us S = gD (itT us i :: srtI ((S.erase i).map (itT us))) := gB_sorted (its_ok h hS) P (List.pairwise_cons.2 ⟨fun y hy => by
      obtain ⟨x, hx, rfl⟩ := List.mem_map.1 ((srtI_perm _).mem_iff.1 hy)
      have := z x (List.mem_of_mem_erase hx)
      unfold tltA at this
      rw [decide_eq_false_iff_not] at this
      unfold gLe itT
      rw [decide_eq_true_eq]
      simp only [Int.mul_assoc]
      omega, srtI_sorted (its_ok h hSe)⟩)
    rw [B]
    simp only [gD]
    rw [gM_perm (srtI_perm _), its_M, show (S.erase i).length = n by omega]
    have e1 : (itT us i).1 = 6 * cA us i := rfl
    have e2 : (itT us i).2.2 - (itT us i).2.1 = 6 - pA us i := rfl
    have e3 : (cs us).c i = cA us i := rfl
    have e4 : (cs us).q i = 6 - pA us i := rfl
    have e5 : gD (srtI ((S.erase i).map (itT us))) = grC us (S.erase i) := rfl
    rw [e1, e2, e3, e4, e5, Int.pow_succ]
    grind
/-- what is not known, and how many yes -/
def unk (m : Nat) (ks : List Int) : List Nat := (List.range m).filter fun k => ks[k]? == some (-1)
def hdN (m s : Nat) : Nat := (List.range m).countP fun k => s.testBit k
end
section
theorem pA_other {us : List T} {k : Nat} (hk : k < us.length) : pA (us.map other) k = 6 - pA us k := by
  unfold pA
  simp [List.getD, hk, other]
theorem others_all {us : List T} (h : us.all tOk = true) : (us.map other).all tOk = true := by
  rw [List.all_map, List.all_eq_true]
  intro x hx
  exact other_ok (List.all_eq_true.1 h x hx)
/-- counting yes is counting no -/
theorem V_other {us : List T} (h : us.all tOk = true) {S : List Nat} (nd : S.Nodup) (hS : ∀ x ∈ S, x < us.length) {k : Nat} (hk : k ≤ S.length + 1) : (cs (us.map other)).V S (S.length + 1 - k) = (cs us).V S k := by
  have ok := cs_ok h
  have ok2 : CSok (cs (us.map other)) fun i => i < us.length := by
    have := cs_ok (others_all h)
    rw [List.length_map] at this
    exact this
  have a := dual_V ok S.length S rfl nd hS (S.length + 1 - k) (by omega)
  rw [show S.length + 1 - (S.length + 1 - k) = k by omega] at a
  rw [← a]
  refine V_uniq ok2 (dual_ok ok) (fun i _ => cA_other us i) (fun i hi => pA_other hi) (fun i j hi hj => ?_) (fun i j hi hj => ?_) S.length S rfl nd hS _
  · show tltA (us.map other) i j = tltB us i j
    unfold tltA tltB
    rw [cA_other, cA_other, pA_other hi, pA_other hj]
  · show tltB (us.map other) i j = tltA us i j
    unfold tltA tltB
    rw [cA_other, cA_other, pA_other hi, pA_other hj, show (6 : Int) - (6 - pA us i) = pA us i by omega, show (6 : Int) - (6 - pA us j) = pA us j by omega]
theorem rA_other {us : List T} {row : Int} (hr : row = 0 ∨ row = 1) : ∀ (l : List Int) (on : Int), (∀ o ∈ l, o.toNat < us.length) → rA (us.map other) (1 - row) on l = rA us row on l
  | [], on, _ => rfl
  | a :: r, on, h => by
    simp only [rA]
    rw [cA_other, eA_other hr (h a List.mem_cons_self), rA_other hr r _ fun o ho => h o (List.mem_cons_of_mem _ ho)]
/-- for one it is the row of one, and for all the row of all -/
theorem V_rows {us : List T} (h : us.all tOk = true) : (cs us).V (List.range us.length) 1 = rA us 1 1 (rO us 1 us.length) ∧ (cs us).V (List.range us.length) us.length = rA us 0 1 (rO us 0 us.length) := by
  have nd : (List.range us.length).Nodup := List.nodup_range
  have hS : ∀ x ∈ List.range us.length, x < us.length := fun x hx => List.mem_range.1 hx
  have h2 := others_all h
  refine ⟨?_, ?_⟩
  · rw [V_one h us.length _ List.length_range nd hS, grC_all h (List.Perm.refl _)]
  · have a := V_other h nd hS (k := us.length) (by rw [List.length_range]; omega)
    rw [List.length_range, show us.length + 1 - us.length = 1 by omega] at a
    rw [← a, V_one h2 us.length _ List.length_range nd (by rw [List.length_map]; exact hS)]
    have g := grC_all h2 (l := List.range us.length) (by rw [List.length_map])
    rw [g, List.length_map]
    have e1 := rO_other (us := us) (row := 0) (.inl rfl) us.length (Nat.le_refl _)
    rw [show (1 : Int) - 0 = 1 by omega] at e1
    rw [e1]
    exact rA_other (us := us) (row := 0) (.inl rfl) _ _ fun o ho => by have := rO_mem ho; omega
theorem hd_le (m s : Nat) : hdN m s ≤ m := by
  have : hdN m s ≤ (List.range m).length := List.countP_le_length
  rwa [List.length_range] at this
end
section
/-- the strict order of a row's ratios -/
def tlR (us : List T) (row : Int) (a b : Nat) : Bool := decide (cA us a * eA us row b < cA us b * eA us row a ∨ cA us b * eA us row a = cA us a * eA us row b ∧ a < b)
theorem insR_strict {us : List T} (h : us.all tOk = true) {row k : Int} (hk : k.toNat < us.length) : ∀ {l : List Int}, (∀ o ∈ l, o.toNat < us.length ∧ o.toNat < k.toNat) → l.Pairwise (fun a b => rLe us row a b = true ∧ (rLe us row b a = true → a.toNat < b.toNat)) → (insR us row k l).Pairwise (fun a b => rLe us row a b = true ∧ (rLe us row b a = true → a.toNat < b.toNat))
  | [], _, _ => by simp [insR]
  | o :: r, hl, hp => by
    obtain ⟨p1, p2⟩ := List.pairwise_cons.1 hp
    have ih := insR_strict h (row := row) hk (l := r) (fun x hx => hl x (List.mem_cons_of_mem _ hx)) p2
    have ho := hl o List.mem_cons_self
    simp only [insR]
    by_cases hc : rLe us row o k = true
    · rw [if_pos hc]
      refine List.pairwise_cons.2 ⟨fun x hx => ?_, ih⟩
      rcases List.mem_cons.1 ((insR_perm us row k r).mem_iff.1 hx) with e | e
      · subst e; exact ⟨hc, fun _ => ho.2⟩
      · exact p1 x e
    · rw [if_neg hc]
      have hc' : rLe us row k o = true := rLe_total (by simpa using hc)
      refine List.pairwise_cons.2 ⟨fun x hx => ?_, hp⟩
      rcases List.mem_cons.1 hx with e | e
      · subst e; exact ⟨hc', fun q => absurd q hc⟩
      · have hx' := hl x hx
        exact ⟨rLe_trans h hk ho.1 hx'.1 hc' (p1 x e).1, fun q => absurd (rLe_trans h ho.1 hx'.1 hk (p1 x e).1 q) hc⟩
theorem rO_strict {us : List T} (h : us.all tOk = true) (row : Int) : ∀ n : Nat, n ≤ us.length → (rO us row n).Pairwise (fun a b => rLe us row a b = true ∧ (rLe us row b a = true → a.toNat < b.toNat))
  | 0, _ => List.Pairwise.nil
  | n + 1, hn => insR_strict h (k := (n : Int)) (by rw [Int.toNat_natCast]; omega) (fun o ho => by have := rO_mem ho; rw [Int.toNat_natCast]; omega) (rO_strict h row n (by omega))
theorem rLe_tl {us : List T} {row a b : Int} (h : rLe us row a b = true ∧ (rLe us row b a = true → a.toNat < b.toNat)) : tlR us row a.toNat b.toNat = true := by
  unfold tlR
  unfold rLe at h
  rw [decide_eq_true_eq, decide_eq_true_eq] at h
  rw [decide_eq_true_eq]
  omega
/-- the order of a row, as numbers -/
def oN (us : List T) (row : Int) : List Nat := (rO us row us.length).map Int.toNat
theorem oN_strict {us : List T} (h : us.all tOk = true) (row : Int) : (oN us row).Pairwise (fun a b => tlR us row a b = true) := by
  unfold oN
  exact List.pairwise_map.2 ((rO_strict h row us.length (Nat.le_refl _)).imp rLe_tl)
theorem oN_perm (us : List T) (row : Int) : (oN us row).Perm (List.range us.length) := by
  have := (rO_perm us row us.length).map Int.toNat
  unfold rng at this
  rw [List.map_map] at this
  have e : (Int.toNat ∘ fun (k : Nat) => (k : Int)) = id := by funext k; simp
  rw [e, List.map_id] at this
  exact this
theorem oN_nd (us : List T) (row : Int) : (oN us row).Nodup := (oN_perm us row).nodup_iff.2 List.nodup_range
theorem oN_mem {us : List T} {row : Int} {k : Nat} (h : k ∈ oN us row) : k < us.length := List.mem_range.1 ((oN_perm us row).mem_iff.1 h)
theorem oN_map (us : List T) (row : Int) : rO us row us.length = (oN us row).map fun (k : Nat) => (k : Int) := by
  unfold oN
  rw [List.map_map]
  have : ∀ l : List Int, (∀ o ∈ l, 0 ≤ o) → l = l.map ((fun (k : Nat) => (k : Int)) ∘ Int.toNat) := fun l => by
    induction l with
    | nil => intro _; rfl
    | cons a r ih =>
      intro h
      have := h a List.mem_cons_self
      rw [List.map_cons, ← ih fun o ho => h o (List.mem_cons_of_mem _ ho)]
      congr 1
      show a = ((a.toNat : Nat) : Int)
      omega
  exact this _ fun o ho => (rO_mem ho).1
/-- who is among the first ones -/
theorem take_rk {D : Nat → Prop} {l : Nat → Nat → Bool} (h : SO D l) : ∀ {L : List Nat} {n i : Nat}, L.Pairwise (fun a b => l a b = true) → (∀ x ∈ L, D x) → (i ∈ L.take n ↔ i ∈ L ∧ rk l L i < n)
  | [], n, i, _, _ => by simp
  | a :: r, 0, i, _, _ => by simp
  | a :: r, n + 1, i, hp, hD => by
    obtain ⟨p1, p2⟩ := List.pairwise_cons.1 hp
    have da := hD a List.mem_cons_self
    have hr : ∀ x ∈ r, D x := fun x hx => hD x (List.mem_cons_of_mem _ hx)
    have ih := take_rk h (L := r) (n := n) (i := i) p2 hr
    have irr : ∀ x, D x → l x x = false := fun x dx => by
      cases e : l x x with
      | false => rfl
      | true => have := h.asy x x dx dx e; rw [e] at this; exact this
    rw [List.take_succ_cons, List.mem_cons, List.mem_cons, ih]
    unfold rk
    rw [List.countP_cons]
    by_cases e : i = a
    · subst e
      have z : r.countP (fun x => l x i) = 0 := List.countP_eq_zero.2 fun x hx => by rw [h.asy i x da (hr x hx) (p1 x hx)]; simp
      rw [z, irr i da]
      simp
    · constructor
      · rintro (q | ⟨q1, q2⟩)
        · exact absurd q e
        · refine ⟨.inr q1, ?_⟩
          split <;> omega
      · rintro ⟨q1 | q1, q2⟩
        · exact absurd q1 e
        · rw [p1 i q1] at q2
          simp at q2
          exact .inr ⟨q1, q2⟩
/-- one more of the first ones -/
def stpF (so n a k : Nat) : Nat := if pc a < n ∧ so.testBit k = true then a ||| 2 ^ k else a
def fF (so n : Nat) (l : List Nat) : Nat := l.foldl (stpF so n) 0
theorem orF_fin : ∀ (a : _root_.Fin 32) (k : _root_.Fin 5), a.val ||| 2 ^ k.val < 32 ∧ (a.val.testBit k.val = false → pc (a.val ||| 2 ^ k.val) = pc a.val + 1) := by decide +kernel
theorem orF_bit {a k i : Nat} : (a ||| 2 ^ k).testBit i = (a.testBit i || decide (k = i)) := by
  rw [Nat.testBit_or, Nat.testBit_two_pow]
theorem stpF_fold {so n : Nat} : ∀ (l A : List Nat) (a : Nat), (A ++ l).Nodup → (∀ x ∈ l, x < 5) → a < 32 → pc a = A.length → (∀ i, a.testBit i = decide (i ∈ A)) →
    ∃ R, R = A ++ (l.filter so.testBit).take (n - A.length) ∧ l.foldl (stpF so n) a < 32 ∧ pc (l.foldl (stpF so n) a) = R.length ∧ ∀ i, (l.foldl (stpF so n) a).testBit i = decide (i ∈ R)
  | [], A, a, _, _, ha, hp, hb => ⟨A, by simp, ha, hp, hb⟩
  | k :: r, A, a, nd, h5, ha, hp, hb => by
    have hk := h5 k List.mem_cons_self
    have nk : k ∉ A := fun q => by
      have := (List.nodup_append.1 nd).2.2 k q k List.mem_cons_self
      exact this rfl
    obtain ⟨f1, f2⟩ := orF_fin ⟨a, ha⟩ ⟨k, hk⟩
    simp only at f1 f2
    rw [List.foldl_cons]
    by_cases c : so.testBit k = true
    · rw [List.filter_cons, if_pos c]
      by_cases d : A.length < n
      · have e : stpF so n a k = a ||| 2 ^ k := by unfold stpF; rw [hp, if_pos ⟨d, c⟩]
        rw [e]
        obtain ⟨R, r1, r2, r3, r4⟩ := stpF_fold (so := so) (n := n) r (A ++ [k]) (a ||| 2 ^ k) (by simpa using nd) (fun x hx => h5 x (List.mem_cons_of_mem _ hx)) f1 (by rw [f2 (by rw [hb]; simpa using nk), hp]; simp) (fun i => by
          rw [orF_bit, hb, ← Bool.decide_or]
          refine decide_eq_decide.2 ?_
          rw [List.mem_append, List.mem_singleton]
          constructor
          · rintro (q | q)
            · exact .inl q
            · exact .inr q.symm
          · rintro (q | q)
            · exact .inl q
            · exact .inr q.symm)
        refine ⟨R, ?_, r2, r3, r4⟩
        obtain ⟨j, hj⟩ : ∃ j, n - A.length = j + 1 := ⟨n - A.length - 1, by omega⟩
        rw [r1, hj, List.take_succ_cons, List.length_append, List.length_singleton, show n - (A.length + 1) = j by omega]
        simp
      · have e : stpF so n a k = a := by unfold stpF; rw [hp, if_neg fun q => d q.1]
        rw [e]
        obtain ⟨R, r1, r2, r3, r4⟩ := stpF_fold (so := so) (n := n) r A a (by
          refine nd.sublist ?_
          exact List.Sublist.append (List.Sublist.refl _) (List.sublist_cons_self _ _)) (fun x hx => h5 x (List.mem_cons_of_mem _ hx)) ha hp hb
        refine ⟨R, ?_, r2, r3, r4⟩
        rw [r1, show n - A.length = 0 by omega]
        simp
    · have c' : so.testBit k = false := by simpa using c
      have e : stpF so n a k = a := by unfold stpF; rw [if_neg fun q => c q.2]
      rw [e, List.filter_cons, if_neg c]
      exact stpF_fold (so := so) (n := n) r A a (nd.sublist (List.Sublist.append (List.Sublist.refl _) (List.sublist_cons_self _ _))) (fun x hx => h5 x (List.mem_cons_of_mem _ hx)) ha hp hb
theorem fF_ok {so n : Nat} {l : List Nat} (nd : l.Nodup) (h5 : ∀ x ∈ l, x < 5) : fF so n l < 32 ∧ pc (fF so n l) ≤ l.length ∧ ∀ i, (fF so n l).testBit i = decide (i ∈ (l.filter so.testBit).take n) := by
  obtain ⟨R, r1, r2, r3, r4⟩ := stpF_fold (so := so) (n := n) l [] 0 (by simpa using nd) h5 (by omega) rfl (fun i => by simp)
  simp only [List.nil_append, List.length_nil, Nat.sub_zero] at r1
  subst r1
  refine ⟨r2, ?_, r4⟩
  unfold fF
  rw [r3]
  exact Nat.le_trans (List.length_take_le' _ _) (List.length_filter_le _ _)
/-- what is left, in ascending order -/
def Sl (m so : Nat) : List Nat := (List.range m).filter fun k => so.testBit k
theorem Sl_nd (m so : Nat) : (Sl m so).Nodup := List.nodup_range.filter _
theorem Sl_mem {m so k : Nat} : k ∈ Sl m so ↔ k < m ∧ so.testBit k = true := by unfold Sl; rw [List.mem_filter, List.mem_range]
theorem Sl_len (m so : Nat) : (Sl m so).length = hdN m so := by unfold Sl hdN; rw [List.countP_eq_length_filter]
theorem pcs_fin : ∀ (m : _root_.Fin 6) (a : _root_.Fin 32), a.val < 2 ^ m.val → pc a.val = hdN m.val a.val := by decide +kernel
theorem pcs {m a : Nat} (hm : m ≤ 5) (h : a < 2 ^ m) : pc a = hdN m a := by
  have : (2 : Nat) ^ m ≤ 2 ^ 5 := Nat.pow_le_pow_right (by omega) hm
  exact pcs_fin ⟨m, by omega⟩ ⟨a, by omega⟩ h
theorem fF_rk {us : List T} (h : us.all tOk = true) (h5 : us.length ≤ 5) (row : Int) (hr : row = 0 ∨ row = 1) (so n i : Nat) : (fF so n (oN us row)).testBit i = decide (i ∈ Sl us.length so ∧ rk (tlR us row) (Sl us.length so) i < n) := by
  obtain ⟨_, _, q⟩ := fF_ok (so := so) (n := n) (oN_nd us row) fun x hx => by have := oN_mem hx; omega
  rw [q]
  have ok := cs_ok h
  have so' : SO (fun i => i < us.length) (tlR us row) := by
    rcases hr with rfl | rfl
    · exact ok.oB
    · exact ok.oA
  have P : ((oN us row).filter so.testBit).Perm (Sl us.length so) := (oN_perm us row).filter _
  refine decide_eq_decide.2 ?_
  rw [take_rk so' ((oN_strict h row).sublist List.filter_sublist) (fun x hx => oN_mem (List.mem_filter.1 hx).1), P.mem_iff]
  unfold rk
  rw [P.countP_eq]
/-- both at once -/
def bB (us : List T) (so k : Nat) : Nat := fF so k (oN us 1) &&& fF so (hdN us.length so - k + 1) (oN us 0)
theorem bB_bit {us : List T} (h : us.all tOk = true) (h5 : us.length ≤ 5) {so k : Nat} (hk : k ≤ hdN us.length so) (i : Nat) : (bB us so k).testBit i = decide (i ∈ bothL us (Sl us.length so) k) := by
  unfold bB bothL
  rw [Nat.testBit_and, fF_rk h h5 1 (.inr rfl), fF_rk h h5 0 (.inl rfl), ← Bool.decide_and]
  refine decide_eq_decide.2 ?_
  rw [List.mem_filter, Bool.and_eq_true, decide_eq_true_eq, decide_eq_true_eq, Sl_len]
  have e1 : tlR us 1 = tltA us := by funext a b; rfl
  have e2 : tlR us 0 = tltB us := by funext a b; rfl
  rw [e1, e2]
  constructor
  · rintro ⟨⟨a, b⟩, _, c⟩
    exact ⟨a, b, by omega⟩
  · rintro ⟨a, b, c⟩
    exact ⟨⟨a, b⟩, a, by omega⟩
theorem bB_lt {us : List T} (h5 : us.length ≤ 5) (so k : Nat) : bB us so k < 32 := by
  obtain ⟨q, _⟩ := fF_ok (so := so) (n := k) (oN_nd us 1) fun x hx => by have := oN_mem hx; omega
  unfold bB
  exact Nat.lt_of_le_of_lt Nat.and_le_left q
/-- the next one -/
def nx (us : List T) (so k : Nat) : Nat := (cs us).ch (Sl us.length so) k
theorem nx_ok {us : List T} (h : us.all tOk = true) (h5 : us.length ≤ 5) {so k : Nat} (h1 : 1 ≤ k) (hk : k ≤ hdN us.length so) :
    nx us so k < us.length ∧ so.testBit (nx us so k) = true ∧ (bB us so k).testBit (nx us so k) = true ∧ ∀ i, i < nx us so k → (bB us so k).testBit i = false := by
  have ok := cs_ok h
  obtain ⟨m, a, b⟩ := ok.ch (Sl us.length so) k (Sl_nd _ _) (fun x hx => (Sl_mem.1 hx).1) h1 (by rw [Sl_len]; exact hk)
  have mb : nx us so k ∈ bothL us (Sl us.length so) k := by
    unfold bothL
    rw [List.mem_filter, Bool.and_eq_true, decide_eq_true_eq, decide_eq_true_eq]
    exact ⟨m, a, b⟩
  refine ⟨(Sl_mem.1 m).1, (Sl_mem.1 m).2, by rw [bB_bit h h5 hk]; simpa using mb, fun i hi => ?_⟩
  rw [bB_bit h h5 hk, decide_eq_false_iff_not]
  intro q
  have e : nx us so k = (bothL us (Sl us.length so) k).headD 0 := rfl
  have pw : (bothL us (Sl us.length so) k).Pairwise (· < ·) := by
    unfold bothL Sl
    exact (List.pairwise_lt_range.filter _).filter _
  rw [e] at hi
  cases hb : bothL us (Sl us.length so) k with
  | nil => rw [hb] at q; cases q
  | cons x r =>
    rw [hb] at q hi pw
    simp only [List.headD_cons] at hi
    rcases List.mem_cons.1 q with c | c
    · omega
    · have := (List.pairwise_cons.1 pw).1 i c
      omega
def vS (us : List T) (so k : Nat) : Int := (cs us).V (Sl us.length so) k
def wS (us : List T) (so k j : Nat) : Int := cA us j * 6 ^ hdN us.length so + (6 - pA us j) * vS us (so - 2 ^ j) k + pA us j * vS us (so - 2 ^ j) (k - 1)
theorem subS_fin : ∀ (a : _root_.Fin 32) (j i : _root_.Fin 5), a.val.testBit j.val = true → (a.val - 2 ^ j.val).testBit i.val = (a.val.testBit i.val && decide (i.val ≠ j.val)) := by decide +kernel
theorem Sl_sub {m so j : Nat} (hm : m ≤ 5) (hs : so < 2 ^ m) (hj : j ∈ Sl m so) : Sl m (so - 2 ^ j) = (Sl m so).erase j := by
  have : (2 : Nat) ^ m ≤ 2 ^ 5 := Nat.pow_le_pow_right (by omega) hm
  obtain ⟨j1, j2⟩ := Sl_mem.1 hj
  rw [(Sl_nd m so).erase_eq_filter]
  unfold Sl
  rw [List.filter_filter]
  refine List.filter_congr fun i hi => ?_
  have hi := List.mem_range.1 hi
  rw [subS_fin ⟨so, by omega⟩ ⟨j, by omega⟩ ⟨i, by omega⟩ j2]
  simp only
  by_cases c : i = j
  · subst c; simp
  · simp [c]
theorem vS_zero (us : List T) {so k : Nat} (h : k = 0 ∨ hdN us.length so < k) : vS us so k = 0 := V_zero _ _ (by rw [Sl_len]; exact h)
theorem wS_W {us : List T} (h5 : us.length ≤ 5) {so k j : Nat} (hs : so < 2 ^ us.length) (hj : j ∈ Sl us.length so) : wS us so k j = (cs us).W (Sl us.length so) k j := by
  unfold wS vS CS.W
  rw [Sl_sub h5 hs hj, Sl_len]
  have e1 : (cs us).c j = cA us j := rfl
  have e2 : (cs us).p j = pA us j := rfl
  have e3 : (cs us).q j = 6 - pA us j := rfl
  rw [e1, e2, e3]
  grind
theorem vS_step {us : List T} (h : us.all tOk = true) (h5 : us.length ≤ 5) {so k : Nat} (hs : so < 2 ^ us.length) (h1 : 1 ≤ k) (hk : k ≤ hdN us.length so) : vS us so k = wS us so k (nx us so k) := by
  obtain ⟨a, b, _⟩ := nx_ok h h5 h1 hk
  rw [wS_W h5 hs (Sl_mem.2 ⟨a, b⟩)]
  exact V_step (cs_ok h) (Sl_nd _ _) (fun x hx => (Sl_mem.1 hx).1) h1 (by rw [Sl_len]; exact hk)
theorem vS_le {us : List T} (h : us.all tOk = true) (h5 : us.length ≤ 5) {so k j : Nat} (hs : so < 2 ^ us.length) (h1 : 1 ≤ k) (hk : k ≤ hdN us.length so) (hj : j ∈ Sl us.length so) : vS us so k ≤ wS us so k j := by
  rw [wS_W h5 hs hj]
  exact count_rule (cs_ok h) (Sl_nd _ _) (fun x hx => (Sl_mem.1 hx).1) h1 (by rw [Sl_len]; exact hk) hj
theorem hdN_sub {m so j : Nat} (hm : m ≤ 5) (hs : so < 2 ^ m) (hj : j ∈ Sl m so) : hdN m (so - 2 ^ j) + 1 = hdN m so := by
  rw [← Sl_len, ← Sl_len, Sl_sub hm hs hj, List.length_erase_of_mem hj]
  have := List.length_pos_of_mem hj
  omega
theorem sum_c {us : List T} (h : us.all tOk = true) : ∀ l : List Nat, (l.map (cA us)).sum ≤ 9 * l.length ∧ 0 ≤ (l.map (cA us)).sum
  | [] => by simp
  | a :: r => by
    have := sum_c h r
    have := cA_nn h a
    simp only [List.map_cons, List.sum_cons, List.length_cons]
    omega
theorem vS_bd {us : List T} (h : us.all tOk = true) (h5 : us.length ≤ 5) (so k : Nat) : 0 ≤ vS us so k ∧ vS us so k ≤ 6 ^ hdN us.length so * 45 := by
  obtain ⟨a, b⟩ := V_bd (cs_ok h) (hdN us.length so) (Sl us.length so) (Sl_len _ _) (Sl_nd _ _) (fun x hx => (Sl_mem.1 hx).1) k
  refine ⟨a, Int.le_trans b ?_⟩
  have := sum_c h (Sl us.length so)
  have hl := hd_le us.length so
  rw [Sl_len] at this
  exact Int.mul_le_mul_of_nonneg_left (show ((Sl us.length so).map (cA us)).sum ≤ 45 by omega) (Int.pow_nonneg (by omega))
end
section
attribute [-simp] DV.cells sliceD
attribute [local simp] cells_st cells_sl cells_i cells_y cells_b cells_s cells_w
/-- how many bits are ones, one by one -/
def hb : Nat → Nat → Nat
  | 0, _ => 0
  | f + 1, n => n % 2 + hb f (n / 2)
theorem hb_zero : ∀ f : Nat, hb f 0 = 0
  | 0 => rfl
  | f + 1 => by simp [hb, hb_zero f]
theorem hb_pc (n : Nat) : hb 5 n = pc n := by
  simp only [hb, pc]
  omega
theorem heads_loop : ∀ (f n a : Nat), n < 2 ^ f → f ≤ 5 → a + f ≤ 100 → ex lf F_spec_l8Heads_W0 ⟨[(0, .i n), (3, .i a)], []⟩ = some (.exit 0, ⟨[(0, .i 0), (3, .i ((a + hb f n : Nat)))], []⟩)
  | 0, n, a, h, _, _ => by
    have e : n = 0 := by simpa using h
    subst e
    rw [w_spec_l8Heads_0]
    simp [F_spec_l8Heads_L0, hb]
  | f + 1, n, a, h, hf, ha => by
    by_cases e : n = 0
    · subst e
      rw [w_spec_l8Heads_0, hb_zero]
      simp [F_spec_l8Heads_L0]
    · have p : (2 : Nat) ^ (f + 1) ≤ 2 ^ 5 := Nat.pow_le_pow_right (by omega) (by omega)
      have I := heads_loop f (n / 2) (a + n % 2) (by rw [Nat.pow_succ] at h; omega) (by omega) (by omega)
      have t1 : (n : Int).tmod 2 = ((n % 2 : Nat) : Int) := by rw [Int.tmod_eq_emod_of_nonneg (by omega)]; omega
      have t2 : (n : Int).tdiv 2 = ((n / 2 : Nat) : Int) := by rw [Int.tdiv_eq_ediv_of_nonneg (by omega)]; omega
      have w1 : wr ((n : Int).tdiv 2) = ((n / 2 : Nat) : Int) := by rw [t2]; exact wr_id (by omega) (by omega)
      have w3 : wr ((n : Int) / 2) = ((n / 2 : Nat) : Int) := by rw [wr_id (by omega) (by omega)]; omega
      have w4 : wr ((a : Int) + (n : Int) % 2) = ((a + n % 2 : Nat) : Int) := by rw [wr_id (by omega) (by omega)]; omega
      have w2 : wr ((a : Int) + (n : Int).tmod 2) = ((a + n % 2 : Nat) : Int) := by rw [t1, wr_id (by omega) (by omega)]; omega
      have g : 0 < n := by omega
      have e2 : a + hb (f + 1) n = a + n % 2 + hb f (n / 2) := by simp only [hb]; omega
      rw [w_spec_l8Heads_0, e2]
      simp [F_spec_l8Heads_L0, g, w1, w2, w3, w4, I, -Int.natCast_add, -Int.natCast_ediv, -Int.natCast_emod]
theorem c_spec_l8Heads {n : Nat} (h : n < 32) : call lf n_spec_l8Heads [.i n] = some (.i (pc n), []) := by
  have L := heads_loop 5 n 0 (by omega) (by omega) (by omega)
  rw [hb_pc, Nat.zero_add] at L
  rw [call_k lf n_spec_l8Heads _ (F := F_spec_l8Heads) rfl rfl]
  simp only [Int.natCast_zero] at L
  simp [F_spec_l8Heads, L]
/-- may the count be asked? -/
def ctOk (us : List T) (k : Int) : Bool := tsOk us && decide (1 ≤ k ∧ k ≤ us.length)
theorem ctOk_iff {us : List T} {k : Int} : ctOk us k = true ↔ tsOk us = true ∧ 1 ≤ k ∧ k ≤ us.length := by
  unfold ctOk
  rw [Bool.and_eq_true, decide_eq_true_eq]
theorem c_spec_CountOk (us : List T) (k : Int) (ha : (us.length : Int) < 1099511627776) : call lf n_spec_CountOk [.sl 0 (us.map e2), .i k] = some (.b (ctOk us k), []) := by
  have C1 := c_spec_TestsOk us ha
  have C2 := c_spec_l1In k 1 us.length
  rw [call_k lf n_spec_CountOk _ (F := F_spec_CountOk) rfl rfl]
  unfold ctOk
  cases h : tsOk us <;> rw [h] at C1 <;> simp [F_spec_CountOk, C1, C2]
set_option maxHeartbeats 5000000 in
def mnW (us : List T) (so k mk : Nat) : Nat → Int
  | 0 => -1
  | i + 1 => if mk.testBit i = true then (if mnW us so k mk i = -1 ∨ wS us so k i < mnW us so k mk i then wS us so k i else mnW us so k mk i) else mnW us so k mk i
theorem mn_inv {us : List T} {so k mk : Nat} (h0 : 0 ≤ vS us so k) (hl : ∀ j, j < us.length → mk.testBit j = true → vS us so k ≤ wS us so k j) : ∀ i, i ≤ us.length → (mnW us so k mk i = -1 ∨ vS us so k ≤ mnW us so k mk i) ∧ ∀ j, j < i → mk.testBit j = true → mnW us so k mk i ≠ -1 ∧ mnW us so k mk i ≤ wS us so k j
  | 0, _ => ⟨.inl rfl, fun j hj => absurd hj (by omega)⟩
  | i + 1, hi => by
    obtain ⟨a, b⟩ := mn_inv h0 hl i (by omega)
    have li := hl i (by omega)
    simp only [mnW]
    by_cases c : mk.testBit i = true
    · rw [if_pos c]
      have li := li c
      by_cases d : mnW us so k mk i = -1 ∨ wS us so k i < mnW us so k mk i
      · rw [if_pos d]
        refine ⟨.inr li, fun j hj hm => ?_⟩
        by_cases e : j = i
        · subst e
          exact ⟨by omega, Int.le_refl _⟩
        · obtain ⟨b1, b2⟩ := b j (by omega) hm
          rcases d with d | d
          · exact absurd d b1
          · exact ⟨by omega, by omega⟩
      · rw [if_neg d]
        refine ⟨a, fun j hj hm => ?_⟩
        by_cases e : j = i
        · subst e
          exact ⟨fun q => d (.inl q), by omega⟩
        · exact b j (by omega) hm
    · rw [if_neg c]
      refine ⟨a, fun j hj hm => ?_⟩
      by_cases e : j = i
      · subst e; exact absurd hm c
      · exact b j (by omega) hm
theorem mn_all {us : List T} (h : us.all tOk = true) (h5 : us.length ≤ 5) {so k mk : Nat} (hs : so < 2 ^ us.length) (h1 : 1 ≤ k) (hk : k ≤ hdN us.length so) (hmk : ∀ j, j < us.length → mk.testBit j = true → so.testBit j = true) (hn : mk.testBit (nx us so k) = true) : mnW us so k mk us.length = vS us so k := by
  have v := vS_bd h h5 so k
  obtain ⟨a, b, _⟩ := nx_ok h h5 h1 hk
  obtain ⟨i1, i2⟩ := mn_inv (mk := mk) v.1 (fun j hj hm => vS_le h h5 hs h1 hk (Sl_mem.2 ⟨hj, hmk j hj hm⟩)) us.length (Nat.le_refl _)
  obtain ⟨q1, q2⟩ := i2 _ a hn
  rw [← vS_step h h5 hs h1 hk] at q2
  rcases i1 with e | e
  · exact absurd e q1
  · omega
theorem p6h {m so : Nat} (hm : m ≤ 5) : (1 : Int) ≤ 6 ^ hdN m so ∧ (6 : Int) ^ hdN m so ≤ 7776 := p6 (by have := hd_le m so; omega)
theorem vS_up {us : List T} (h : us.all tOk = true) (h5 : us.length ≤ 5) (so k : Nat) : 0 ≤ vS us so k ∧ vS us so k ≤ 349920 := by
  have := vS_bd h h5 so k
  have p := p6h (so := so) h5
  refine ⟨this.1, ?_⟩
  have : (6 : Int) ^ hdN us.length so * 45 ≤ 7776 * 45 := by omega
  omega
theorem sub_lt {m so j : Nat} (hs : so < 2 ^ m) : so - 2 ^ j < 2 ^ m := Nat.lt_of_le_of_lt (Nat.sub_le _ _) hs
end
section
attribute [-simp] DV.cells
attribute [local simp] sliceD cells_st cells_sl cells_i cells_y cells_b cells_s cells_w
theorem quo29 {x : Int} (h0 : 0 ≤ x) (h1 : x < 30) : x.tdiv 29 = 0 ∨ x.tdiv 29 = 1 := by
  rw [Int.tdiv_eq_ediv_of_nonneg h0]; omega
set_option maxHeartbeats 4000000 in
theorem c_l20Count {bs : List Nat} (hb : ∀ y ∈ bs, y < 256) (hl : bs.length ≤ 2000) {p : Int} (h0 : 0 ≤ p) (h1 : p < 500000) :
    ∃ (us : List T) (k p' : Int), us.length ≤ 5 ∧ (-10 ≤ k ∧ k ≤ 10) ∧ call lf n_spec_l20Count [.ref (.st [.sl 0 (bs.map .y), .i p])] = some (.tup [.fr 2 (us.map e2), .i k], [.st [.sl 0 (bs.map .y), .i p']]) := by
  obtain ⟨us, q, u1, q1, q2, h⟩ := c_l20Tests hb hl (p := p) (n := 14) h0 (by omega) (by omega) (by omega)
  obtain ⟨n, hn⟩ : ∃ n, max (us.length : Int) 1 = n := ⟨_, rfl⟩
  have k1 := c_pick hb hl (p := q) (n := n) (by omega) (by omega) (by omega)
  have a1 := pk_bound hb (p := q) (n := n) (by omega) (by omega) (by omega)
  have k2 := c_pick hb hl (p := q + 1) (n := 30) (by omega) (by omega) (by omega)
  have a2 := pk_bound hb (p := q + 1) (n := 30) (by omega) (by omega) (by omega)
  have k3 := c_pick hb hl (p := q + 1 + 1) (n := 40) (by omega) (by omega) (by omega)
  have a3 := pk_bound hb (p := q + 1 + 1) (n := 40) (by omega) (by omega) (by omega)
  have q2' := quo29 a2.1 a2.2
  have q3' := quo39 a3.1 a3.2
  have w1 : wr ((pk bs (q + 1) 30).tdiv 29) = (pk bs (q + 1) 30).tdiv 29 := wr_id (by omega) (by omega)
  have w2 : wr ((pk bs (q + 1 + 1) 40).tdiv 39) = (pk bs (q + 1 + 1) 40).tdiv 39 := wr_id (by omega) (by omega)
  have w3 : wr (1 + pk bs q n) = 1 + pk bs q n := wr_id (by omega) (by omega)
  have w4 : wr (1 + pk bs q n + (pk bs (q + 1) 30).tdiv 29) = 1 + pk bs q n + (pk bs (q + 1) 30).tdiv 29 := wr_id (by omega) (by omega)
  have w5 : wr ((pk bs (q + 1 + 1) 40).tdiv 39 * 2) = (pk bs (q + 1 + 1) 40).tdiv 39 * 2 := wr_id (by omega) (by omega)
  have w6 : wr (1 + pk bs q n + (pk bs (q + 1) 30).tdiv 29 - (pk bs (q + 1 + 1) 40).tdiv 39 * 2) = 1 + pk bs q n + (pk bs (q + 1) 30).tdiv 29 - (pk bs (q + 1 + 1) 40).tdiv 39 * 2 := wr_id (by omega) (by omega)
  refine ⟨us, 1 + pk bs q n + (pk bs (q + 1) 30).tdiv 29 - (pk bs (q + 1 + 1) 40).tdiv 39 * 2, q + 1 + 1 + 1, u1, by omega, ?_⟩
  rw [call_k lf n_spec_l20Count _ (F := F_spec_l20Count) rfl rfl]
  simp [F_spec_l20Count, h, hn, k1, k2, k3, w1, w2, w3, w4, w5, w6]
theorem c_DrawCountAverage {bs : List Nat} (hb : ∀ y ∈ bs, y < 256) (hl : bs.length ≤ 1048576) :
    ∃ (us : List T) (k : Int), us.length ≤ 5 ∧ (-10 ≤ k ∧ k ≤ 10) ∧ call lf n_spec_DrawCountAverage [.sl 0 (bs.map .y)] = some (.tup [.fr 2 (us.map e2), .i k], []) := by
  obtain ⟨c1, c2⟩ := take_b hb
  have o := c_open hl
  generalize bs.take 2000 = cs at *
  obtain ⟨us, k, p', u1, k1, h⟩ := c_l20Count c1 c2 (p := 0) (by omega) (by omega)
  refine ⟨us, k, u1, k1, ?_⟩
  have tk2 : List.take us.length (us.map e2) = us.map e2 := List.take_of_length_le (by simp)
  rw [call_k lf n_spec_DrawCountAverage _ (F := F_spec_DrawCountAverage) rfl rfl]
  simp [F_spec_DrawCountAverage, o, h, tk2]
theorem orr_fin : ∀ a b : _root_.Fin 32, orI (a.val : Int) (b.val : Int) = ((a.val ||| b.val : Nat) : Int) ∧ a.val ||| b.val < 32 := by decide +kernel
set_option maxHeartbeats 4000000 in
theorem c_DrawNextInCount {bs : List Nat} (hb : ∀ y ∈ bs, y < 256) (hl : bs.length ≤ 1048576) :
    ∃ (us : List T) (s : Nat) (k : Int), us.length ≤ 5 ∧ s < 32 ∧ (-10 ≤ k ∧ k ≤ 40) ∧ call lf n_spec_DrawNextInCount [.sl 0 (bs.map .y)] = some (.tup [.fr 2 (us.map e2), .i s, .i k], []) := by
  obtain ⟨c1, c2⟩ := take_b hb
  have o := c_open hl
  generalize bs.take 2000 = cs at *
  obtain ⟨us, q, u1, q1, q2, h⟩ := c_l20Tests c1 c2 (p := 0) (n := 14) (by omega) (by omega) (by omega) (by omega)
  have sh : shlI 1 (us.length : Nat) = ((2 ^ us.length : Nat) : Int) := by rw [shl1 (by omega) (by omega), Int.toNat_natCast]; simp
  have p1 : 1 ≤ 2 ^ us.length := Nat.one_le_two_pow
  have p2 : (2 : Nat) ^ us.length ≤ 2 ^ 5 := Nat.pow_le_pow_right (by omega) u1
  generalize (2 ^ us.length : Nat) = N at *
  have k1 := c_pick c1 c2 (p := q) (n := N) (by omega) (by omega) (by omega)
  have a1 := pk_bound c1 (p := q) (n := N) (by omega) (by omega) (by omega)
  have k2 := c_pick c1 c2 (p := q + 1) (n := N) (by omega) (by omega) (by omega)
  have a2 := pk_bound c1 (p := q + 1) (n := N) (by omega) (by omega) (by omega)
  obtain ⟨a, ha⟩ := Int.eq_ofNat_of_zero_le a1.1
  obtain ⟨b, hb'⟩ := Int.eq_ofNat_of_zero_le a2.1
  rw [ha] at k1 a1
  rw [hb'] at k2 a2
  obtain ⟨o1, o2⟩ := orr_fin ⟨a, by omega⟩ ⟨b, by omega⟩
  simp only at o1 o2
  have H := c_spec_l8Heads o2
  have hp : pc (a ||| b) ≤ 5 := by unfold pc; omega
  generalize (a ||| b : Nat) = s at *
  obtain ⟨m, hm⟩ : ∃ m, max ((pc s : Nat) : Int) 1 = m := ⟨_, rfl⟩
  have k3 := c_pick c1 c2 (p := q + 1 + 1) (n := m) (by omega) (by omega) (by omega)
  have a3 := pk_bound c1 (p := q + 1 + 1) (n := m) (by omega) (by omega) (by omega)
  have k4 := c_pick c1 c2 (p := q + 1 + 1 + 1) (n := 30) (by omega) (by omega) (by omega)
  have a4 := pk_bound c1 (p := q + 1 + 1 + 1) (n := 30) (by omega) (by omega) (by omega)
  have q4 := quo29 a4.1 a4.2
  have w1 : wr ((pk cs (q + 1 + 1 + 1) 30).tdiv 29) = (pk cs (q + 1 + 1 + 1) 30).tdiv 29 := wr_id (by omega) (by omega)
  have w2 : wr (1 + pk cs (q + 1 + 1) m) = 1 + pk cs (q + 1 + 1) m := wr_id (by omega) (by omega)
  have w3 : wr (1 + pk cs (q + 1 + 1) m + (pk cs (q + 1 + 1 + 1) 30).tdiv 29) = 1 + pk cs (q + 1 + 1) m + (pk cs (q + 1 + 1 + 1) 30).tdiv 29 := wr_id (by omega) (by omega)
  have nn : ¬ ((us.length : Nat) : Int) < 0 := by omega
  have tk2 : List.take us.length (us.map e2) = us.map e2 := List.take_of_length_le (by simp)
  refine ⟨us, s, 1 + pk cs (q + 1 + 1) m + (pk cs (q + 1 + 1 + 1) 30).tdiv 29, u1, o2, by omega, ?_⟩
  generalize pc s = pcs at *
  rw [call_k lf n_spec_DrawNextInCount _ (F := F_spec_DrawNextInCount) rfl rfl]
  simp [F_spec_DrawNextInCount, o, h, sh, nn, k1, k2, k3, k4, o1, H, hm, w1, w2, w3, tk2]
end
section
theorem and_fin : ∀ a b : _root_.Fin 32, andI (a.val : Int) (b.val : Int) = ((a.val &&& b.val : Nat) : Int) := by decide +kernel
theorem and_nat {a b : Nat} (ha : a < 32) (hb : b < 32) : andI (a : Int) (b : Int) = ((a &&& b : Nat) : Int) := and_fin ⟨a, ha⟩ ⟨b, hb⟩
end
section
attribute [-simp] DV.cells
attribute [local simp] sliceD cells_st cells_sl cells_i cells_y cells_b cells_s cells_w
theorem us_cell {us : List T} (h : us.all tOk = true) {i : Nat} (hi : i < us.length) : ∃ c q : Int, atI (us.map e2) (i : Nat) = some (.st [.i c, .i q]) ∧ atN (us.map e2) i = some (.st [.i c, .i q]) ∧ c = cA us i ∧ q = pA us i ∧ (1 ≤ c ∧ c ≤ 9) ∧ (1 ≤ q ∧ q ≤ 5) := by
  obtain ⟨c, q, c1, c2, c3⟩ := cA_at (us := us) (a := (i : Int)) (by omega) (by omega)
  rw [Int.toNat_natCast] at c2 c3
  have e : us.getD i (0, 0) = us[i] := by simp [List.getD, hi]
  have tq := tOk_iff.1 (List.all_eq_true.1 h us[i] (List.getElem_mem hi))
  rw [← e, c3] at tq
  refine ⟨c, q, c1, ?_, c2, by unfold pA; rw [c3], tq.1, tq.2⟩
  rw [← c1]
  simp only [atI, if_pos (Int.natCast_nonneg i)]
  rfl
theorem bit_rem {so i : Nat} (hi : i ≤ 40) : (shrI (so : Int) (i : Int)).tmod 2 = bI (so.testBit i) := by
  rw [shr1 (by omega) (by omega), Int.toNat_natCast, ← div_bI, Int.tmod_eq_emod_of_nonneg (Int.ediv_nonneg (by omega) (Int.le_of_lt (Int.pow_pos (by omega))))]
theorem bit_sub {so i : Nat} (hb : so.testBit i = true) : 2 ^ i ≤ so := Nat.ge_two_pow_of_testBit hb
set_option maxHeartbeats 8000000 in
def cvL (us : List T) (k : Int) : Int := if ctOk us k then vS us (2 ^ us.length - 1) k.toNat else -1
theorem full_hd {m : Nat} (hm : m ≤ 5) : hdN m (2 ^ m - 1) = m := by
  have : m = 0 ∨ m = 1 ∨ m = 2 ∨ m = 3 ∨ m = 4 ∨ m = 5 := by omega
  rcases this with rfl | rfl | rfl | rfl | rfl | rfl <;> decide +kernel
end
section
attribute [-simp] DV.cells
attribute [local simp] sliceD cells_st cells_sl cells_i cells_y cells_b cells_s cells_w
theorem c_impl_CountOk (us : List T) (k : Int) (ha : (us.length : Int) < 1099511627776) : call lf n_impl_CountOk [.sl 0 (us.map e2), .i k] = some (.b (ctOk us k), []) := by
  have C1 := c_impl_TestsOk us ha
  have C2 := c_impl_isWithin k 1 us.length
  rw [call_k lf n_impl_CountOk _ (F := F_impl_CountOk) rfl rfl]
  unfold ctOk
  cases h : tsOk us <;> rw [h] at C1 <;> simp [F_impl_CountOk, C1, C2]
set_option maxHeartbeats 4000000 in
theorem c_impl_allOf {us : List T} (h : tsOk us = true) : call lf n_impl_allOf [.sl 0 (us.map e2)] = some (.i ((2 ^ us.length - 1 : Nat) : Int), []) := by
  have ht := tsOk_iff.1 h
  obtain ⟨p0, p1, p2⟩ := pow5 (m := us.length) (by omega) (by omega)
  have S := c_impl_statesOf us.length (by omega) (by omega)
  rw [← p2] at S
  rw [Int.toNat_natCast] at p0 p1 p2 S
  have w1 : wr (((2 ^ us.length : Nat) : Int) - 1) = ((2 ^ us.length - 1 : Nat) : Int) := by rw [wr_id (by omega) (by omega)]; omega
  rw [call_k lf n_impl_allOf _ (F := F_impl_allOf) rfl rfl]
  generalize (2 ^ us.length - 1 : Nat) = a at *
  generalize (2 ^ us.length : Nat) = b at *
  simp [F_impl_allOf, S, w1]
theorem andNot_fin : ∀ (a : _root_.Fin 32) (k : _root_.Fin 5), a.val.testBit k.val = true → andNotI (a.val : Int) ((2 ^ k.val : Nat) : Int) = ((a.val - 2 ^ k.val : Nat) : Int) := by decide +kernel
theorem andNot_bit {a k : Nat} (ha : a < 32) (hk : k < 5) (h : a.testBit k = true) : andNotI (a : Int) ((2 ^ k : Nat) : Int) = ((a - 2 ^ k : Nat) : Int) := andNot_fin ⟨a, ha⟩ ⟨k, hk⟩ h
theorem mn_step (us : List T) (so k mk i : Nat) (h : mk.testBit i = true) : mnW us so k mk (i + 1) = if mnW us so k mk i = -1 ∨ wS us so k i < mnW us so k mk i then wS us so k i else mnW us so k mk i := by simp only [mnW]; rw [if_pos h]
theorem mn_skip (us : List T) (so k mk i : Nat) (h : mk.testBit i = false) : mnW us so k mk (i + 1) = mnW us so k mk i := by simp only [mnW]; rw [if_neg (by rw [h]; simp)]
theorem c_CountBest_1 (so k : Nat) : call lf n_impl_CountBest_1 [.i so, .i k] = some (.i so, []) := by
  rw [call_k lf n_impl_CountBest_1 _ (F := F_impl_CountBest_1) rfl rfl]
  simp [F_impl_CountBest_1]
def stLtB (us : List T) (so k mk : Nat) (b : Int) (i : Nat) : LS := ⟨[(0, .sl 0 (us.map e2)), (1, .i so), (2, .i k), (3, .fn n_impl_CountBest_1 []), (9, .i mk), (10, .i b), (29, .sl 0 (us.map e2)), (30, .i us.length), (31, .i i)], []⟩
set_option maxHeartbeats 8000000 in
theorem c_leastToCountB {us : List T} (h : tsOk us = true) : ∀ (n so k : Nat), hdN us.length so = n → so < 2 ^ us.length → k ≤ 10 →
    call lf n_impl_leastToCount [.sl 0 (us.map e2), .i so, .i k, .fn n_impl_CountBest_1 []] = some (.i (vS us so k), [])
  | n, so, k, hn, hs, hk => by
    have ht := tsOk_iff.1 h
    have h5 : us.length ≤ 5 := by omega
    obtain ⟨p0, p1, p2⟩ := pow5 (m := us.length) (by omega) (by omega)
    rw [Int.toNat_natCast] at p0 p1 p2
    have H := c_impl_sizeOf (n := so) (by omega)
    rw [pcs h5 hs, hn] at H
    by_cases hz : k = 0 ∨ n < k
    · rw [vS_zero us (by rw [hn]; exact hz)]
      rw [call_k lf n_impl_leastToCount _ (F := F_impl_leastToCount) rfl rfl]
      by_cases c : k = 0
      · subst c
        simp [F_impl_leastToCount]
      · have c1 : ((k : Int) == 0) = false := beq_eq_false_iff_ne.2 (by omega)
        have c2 : (n : Int) < k := by omega
        have c3 : n < k := by omega
        simp [F_impl_leastToCount, H, c1, c2, c3, c]
    · have k1 : 1 ≤ k := by omega
      have kn : k ≤ n := by omega
      obtain ⟨f, rfl⟩ : ∃ f, n = f + 1 := ⟨n - 1, by omega⟩
      obtain ⟨mk, MC, mlt, msub, mnx⟩ : ∃ mk : Nat, call lf n_impl_CountBest_1 [.i so, .i k] = some (.i mk, []) ∧ mk ≤ 4294967296 ∧ (∀ j, j < us.length → mk.testBit j = true → so.testBit j = true) ∧ mk.testBit (nx us so k) = true := ⟨so, c_CountBest_1 so k, by omega, fun _ _ q => q, (nx_ok ht.2 h5 k1 (by omega)).2.1⟩
      have LP := loop_count (lf := lf) (L := F_impl_leastToCount_L0) us.length (fun i => stLtB us so k mk (mnW us so k mk i) i) (x := .exit 0) (R := stLtB us so k mk (mnW us so k mk us.length) us.length) (fun i hi => by
        have w1 : wr ((i : Int) + 1) = ((i + 1 : Nat) : Int) := by rw [wr_id (by omega) (by omega)]; omega
        have hi' : (i : Int) < us.length := by omega
        obtain ⟨c, q, a1, a2, ec, eq, cb, qb⟩ := us_cell ht.2 hi
        have HT := c_impl_hasTest mk i (by omega)
        cases hb : mk.testBit i with
        | false =>
          rw [mn_skip us so k mk i hb]
          rw [hb] at HT
          generalize mnW us so k mk i = b at *
          unfold stLtB
          simp [F_impl_leastToCount_L0, hi, hi', a1, a2, HT, w1, -Int.natCast_add]
        | true =>
          have hsb := msub i hi hb
          have hj : i ∈ Sl us.length so := Sl_mem.2 ⟨hi, hsb⟩
          have hd := hdN_sub h5 hs hj
          have s2 := sub_lt (j := i) hs
          have G1 := c_leastToCountB h f (so - 2 ^ i) (k - 1) (by omega) s2 (by omega)
          have G0 := c_leastToCountB h f (so - 2 ^ i) k (by omega) s2 (by omega)
          have v1 := vS_up ht.2 h5 (so - 2 ^ i) (k - 1)
          have v0 := vS_up ht.2 h5 (so - 2 ^ i) k
          have A := c_averageAsking (n := f + 1) (by have := hd_le us.length so; omega) cb qb (no := vS us (so - 2 ^ i) k) (yes := vS us (so - 2 ^ i) (k - 1)) (by omega) (by omega)
          have ew : wS us so k i = c * 6 ^ (f + 1) + (6 - q) * vS us (so - 2 ^ i) k + q * vS us (so - 2 ^ i) (k - 1) := by
            unfold wS
            rw [hn, ← ec, ← eq]
          rw [← ew] at A
          rw [mn_step us so k mk i hb]
          have sh : shlI 1 (i : Nat) = ((2 ^ i : Nat) : Int) := by rw [shl1 (by omega) (by omega), Int.toNat_natCast]; simp
          have an := andNot_bit (a := so) (k := i) (by omega) (by omega) hsb
          have w3 : wr ((k : Int) - 1) = ((k - 1 : Nat) : Int) := by rw [wr_id (by omega) (by omega)]; omega
          have ni : ¬ (i : Int) < 0 := by omega
          rw [hb] at HT
          clear ew
          generalize wS us so k i = s at *
          generalize vS us (so - 2 ^ i) k = x0 at *
          generalize vS us (so - 2 ^ i) (k - 1) = x1 at *
          generalize (so - 2 ^ i : Nat) = so' at *
          generalize (2 ^ i : Nat) = tp at *
          generalize mnW us so k mk i = b at *
          generalize (k - 1 : Nat) = k' at *
          generalize f + 1 = g at *
          unfold stLtB
          by_cases d1 : b = -1
          · rw [if_pos (.inl d1)]
            subst d1
            simp [F_impl_leastToCount_L0, hi, hi', ni, a1, a2, HT, sh, an, H, A, w1, w3, G0, G1, -Int.natCast_add, -Int.natCast_pow]
          · have d1' : (b == -1) = false := beq_eq_false_iff_ne.2 d1
            by_cases d2 : s < b
            · rw [if_pos (.inr d2)]
              simp [F_impl_leastToCount_L0, hi, hi', ni, a1, a2, HT, sh, an, H, A, w1, w3, G0, G1, d1', d2, -Int.natCast_add, -Int.natCast_pow]
            · rw [if_neg (fun q => q.elim d1 d2)]
              simp [F_impl_leastToCount_L0, hi, hi', ni, a1, a2, HT, sh, an, H, A, w1, w3, G0, G1, d1', d2, -Int.natCast_add, -Int.natCast_pow]) (by
        generalize mnW us so k mk us.length = b at *
        unfold stLtB
        simp [F_impl_leastToCount_L0]) (by simp)
      have a := mn_all (us := us) (so := so) (k := k) (mk := mk) ht.2 h5 hs k1 (by omega) msub mnx
      have z : mnW us so k mk 0 = -1 := rfl
      rw [a, z] at LP
      unfold stLtB at LP
      simp only [Int.natCast_zero] at LP
      change ex lf F_impl_leastToCount_W0 _ = _ at LP
      have c1 : ((k : Int) == 0) = false := beq_eq_false_iff_ne.2 (by omega)
      have c2 : ¬ ((f + 1 : Nat) : Int) < k := by omega
      have c3 : ¬ f + 1 < k := by omega
      generalize vS us so k = V at *
      generalize f + 1 = g at *
      rw [call_k lf n_impl_leastToCount _ (F := F_impl_leastToCount) rfl rfl]
      simp [F_impl_leastToCount, H, c1, c2, c3, MC, LP]
theorem c_impl_CountBest (us : List T) (k : Int) (ha : (us.length : Int) < 1099511627776) : call lf n_impl_CountBest [.sl 0 (us.map e2), .i k] = some (.i (cvL us k), []) := by
  have C1 := c_impl_CountOk us k ha
  rw [call_k lf n_impl_CountBest _ (F := F_impl_CountBest) rfl rfl]
  unfold cvL
  cases h : ctOk us k with
  | false =>
    rw [h] at C1
    simp [F_impl_CountBest, C1]
  | true =>
    rw [h] at C1
    obtain ⟨h1, k1, k2⟩ := ctOk_iff.1 h
    obtain ⟨n, rfl⟩ := Int.eq_ofNat_of_zero_le (show 0 ≤ k by omega)
    have ht := tsOk_iff.1 h1
    obtain ⟨p0, p1, p2⟩ := pow5 (m := us.length) (by omega) (by omega)
    rw [Int.toNat_natCast] at p0 p1 p2 ⊢
    have A := c_impl_allOf h1
    have G := c_leastToCountB h1 us.length (2 ^ us.length - 1) n (full_hd (by omega)) (by omega) (by omega)
    generalize (2 ^ us.length - 1 : Nat) = a at *
    generalize vS us a n = V at *
    simp [F_impl_CountBest, C1, A, G]
end
section
attribute [-simp] DV.cells
attribute [local simp] sliceD cells_st cells_sl cells_i cells_y cells_b cells_s cells_w
def eNat (k : Nat) : DV := .i (k : Int)
theorem eN_map (us : List T) (row : Int) : (rO us row us.length).map DV.i = (oN us row).map eNat := by
  rw [oN_map, List.map_map]; rfl
theorem eNat_len (l : List Nat) : (l.map eNat).length = l.length := List.length_map ..
theorem eNat_atI {l : List Nat} {j k : Nat} (h : l[j]? = some k) : atI (l.map eNat) (j : Nat) = some (.i k) := by
  simp only [atI, if_pos (Int.natCast_nonneg _)]
  show (l.map eNat)[((j : Nat) : Int).toNat]? = _
  rw [Int.toNat_natCast, List.getElem?_map, h]; rfl
theorem eNat_atN {l : List Nat} {j k : Nat} (h : l[j]? = some k) : atN (l.map eNat) j = some (.i k) := by
  show (l.map eNat)[j]? = _
  rw [List.getElem?_map, h]; rfl
theorem eNat_lend (l : List Nat) : lendL (l.map eNat) = l.map eNat := by rw [lendL_map, List.map_map]; rfl
theorem or_nat2 {a k : Nat} (ha : a < 32) (hk : k < 5) : orI (a : Int) ((2 ^ k : Nat) : Int) = ((a ||| 2 ^ k : Nat) : Int) := by
  have := or_fin ⟨a, ha⟩ ⟨k, hk⟩
  simp only at this
  rw [← this]
  simp
theorem shl_nat {k : Nat} (hk : k ≤ 40) : shlI 1 (k : Nat) = ((2 ^ k : Nat) : Int) := by rw [shl1 (by omega) (by omega), Int.toNat_natCast]; simp
/-- one by one -/
theorem fF_take {so n : Nat} {l : List Nat} (nd : l.Nodup) (h5 : ∀ x ∈ l, x < 5) {j k : Nat} (hk : l[j]? = some k) :
    fF so n (l.take (j + 1)) = stpF so n (fF so n (l.take j)) k ∧ fF so n (l.take j) < 32 ∧ (fF so n (l.take j)).testBit k = false := by
  have hj := (List.getElem?_eq_some_iff.1 hk).1
  have e : l.take (j + 1) = l.take j ++ [k] := by rw [List.take_add_one, hk]; rfl
  have nd' : (l.take (j + 1)).Nodup := nd.sublist (List.take_sublist _ _)
  rw [e] at nd'
  obtain ⟨q1, _, q3⟩ := fF_ok (so := so) (n := n) (l := l.take j) (nd.sublist (List.take_sublist _ _)) fun x hx => h5 x (List.mem_of_mem_take hx)
  refine ⟨?_, q1, ?_⟩
  · unfold fF
    rw [e, List.foldl_append]
    rfl
  · rw [q3, decide_eq_false_iff_not]
    intro q
    have q' := (List.mem_filter.1 (List.mem_of_mem_take q)).1
    exact (List.nodup_append.1 nd').2.2 k q' k List.mem_cons_self rfl
def stFs (so n out m cnt j : Nat) (cs : List DV) : LS := ⟨[(1, .i so), (3, .i n), (9, .i out), (10, .own 7688 m 0 m), (11, .i cnt), (12, .i j)], [(7688, cs)]⟩
set_option maxHeartbeats 8000000 in
theorem c_spec_l8First {us : List T} (h : tsOk us = true) {row : Int} (hr : row = 0 ∨ row = 1) {so n : Nat} (hs : so < 32) (hn : n ≤ 10) : call lf n_spec_l8First [.sl 0 (us.map e2), .i so, .i row, .i n] = some (.i (fF so n (oN us row)), []) := by
  have ht := tsOk_iff.1 h
  have R := c_spec_RatioOrder us row (by omega)
  have rw1 : rwOk row = true := by rcases hr with rfl | rfl <;> rfl
  have er : roL us row = rO us row us.length := by unfold roL; rw [h, rw1]; rfl
  rw [er, eN_map] at R
  have nd := oN_nd us row
  have h5 : ∀ x ∈ oN us row, x < 5 := fun x hx => by have := oN_mem hx; omega
  have ol : (oN us row).length = us.length := by rw [(oN_perm us row).length_eq, List.length_range]
  generalize oN us row = l at *
  have lm := eNat_len l
  have L := loop_count (lf := lf) (L := F_spec_l8First_L0) l.length (fun j => stFs so n (fF so n (l.take j)) l.length (pc (fF so n (l.take j))) j (l.map eNat)) (x := .exit 0) (R := stFs so n (fF so n (l.take l.length)) l.length (pc (fF so n (l.take l.length))) l.length (l.map eNat)) (fun j hj => by
    have hk : l[j]? = some l[j] := List.getElem?_eq_getElem hj
    have k5 := h5 _ (List.getElem_mem hj)
    obtain ⟨f1, f2, f3⟩ := fF_take (so := so) (n := n) nd h5 hk
    have A1 := eNat_atI hk
    have A2 := eNat_atN hk
    rw [f1]
    generalize l[j] = k at *
    generalize fF so n (l.take j) = a at *
    have br := bit_rem (so := so) (i := k) (by omega)
    have ni : ¬ (k : Int) < 0 := by omega
    have w1 : wr ((j : Int) + 1) = ((j + 1 : Nat) : Int) := by rw [wr_id (by omega) (by omega)]; omega
    have hj' : (j : Int) < l.length := by omega
    have sh := shl_nat (k := k) (by omega)
    have oe := or_nat2 f2 k5
    obtain ⟨g1, g2⟩ := orF_fin ⟨a, f2⟩ ⟨k, k5⟩
    simp only at g1 g2
    have g2 := g2 f3
    have pa : pc a ≤ 5 := by unfold pc; omega
    have w2 : wr ((pc a : Nat) + 1 : Int) = ((pc a + 1 : Nat) : Int) := by rw [wr_id (by omega) (by omega)]; omega
    unfold stFs stpF
    generalize l.map eNat = M at *
    cases hb : so.testBit k with
    | false =>
      rw [hb] at br
      have z : (bI false == 1) = false := rfl
      rw [if_neg (by simp)]
      generalize pc a = p at *
      simp [F_spec_l8First_L0, hj, hj', A1, A2, lm, ni, br, z, w1, -Int.natCast_add, -Int.natCast_pow]
    | true =>
      rw [hb] at br
      have z : (bI true == 1) = true := rfl
      by_cases hc : pc a < n
      · have hc' : ((pc a : Nat) : Int) < n := by omega
        rw [if_pos ⟨hc, rfl⟩, g2]
        generalize (a ||| 2 ^ k : Nat) = a' at *
        generalize (2 ^ k : Nat) = tp at *
        generalize pc a = p at *
        simp [F_spec_l8First_L0, hj, hj', A1, A2, lm, ni, br, z, w1, w2, hc, hc', sh, oe, -Int.natCast_add, -Int.natCast_pow]
      · have hc' : ¬ ((pc a : Nat) : Int) < n := by omega
        rw [if_neg fun q => hc q.1]
        generalize pc a = p at *
        simp [F_spec_l8First_L0, hj, hj', A1, A2, lm, ni, br, z, w1, hc, hc', -Int.natCast_add, -Int.natCast_pow]) (by
    unfold stFs
    generalize l.map eNat = M at *
    simp [F_spec_l8First_L0, lm]) (by simp)
  have z1 : fF so n (l.take 0) = 0 := rfl
  have z2 : pc 0 = 0 := rfl
  rw [z1, z2, List.take_length] at L
  unfold stFs at L
  simp only [Int.natCast_zero] at L
  change ex lf F_spec_l8First_W0 _ = _ at L
  have lE := eNat_lend l
  have nw : allNewL (l.map eNat) = true := by rw [allNewL_all, List.all_map, List.all_eq_true]; intro x _; rfl
  have ad : ∀ o, adoptL o (l.map eNat) = l.map eNat := fun o => by rw [adoptL_map, List.map_map]; rfl
  generalize l.map eNat = M at *
  rw [call_k lf n_spec_l8First _ (F := F_spec_l8First) rfl rfl]
  simp [F_spec_l8First, R, L, lm, nw, ad]
/-- the test that is asked next -/
def nxOk (us : List T) (some needed : Int) : Bool := tsOk us && stOk us.length some && decide (1 ≤ needed ∧ needed ≤ hdN us.length some.toNat)
def nxL (us : List T) (some needed : Int) : Int := if nxOk us some needed then nx us some.toNat needed.toNat else -1
theorem nxOk_iff {us : List T} {s k : Int} : nxOk us s k = true ↔ tsOk us = true ∧ (0 ≤ s ∧ s < 2 ^ us.length) ∧ 1 ≤ k ∧ k ≤ hdN us.length s.toNat := by
  unfold nxOk stOk
  rw [Bool.and_eq_true, Bool.and_eq_true, Bool.and_eq_true, decide_eq_true_eq, decide_eq_true_eq, Int.toNat_natCast]
  constructor
  · rintro ⟨⟨a, _, b⟩, c⟩; exact ⟨a, b, c⟩
  · rintro ⟨a, b, c⟩
    have := tsOk_iff.1 a
    exact ⟨⟨a, by simp [nOk]; omega, b⟩, c⟩
def stNx (us : List T) (b i : Nat) : LS := ⟨[(0, .sl 0 (us.map e2)), (7, .i b), (8, .i i)], []⟩
set_option maxHeartbeats 8000000 in
theorem c_spec_NextInCount (us : List T) (s k : Int) (ha : (us.length : Int) < 1099511627776) : call lf n_spec_NextInCount [.sl 0 (us.map e2), .i s, .i k] = some (.i (nxL us s k), []) := by
  have C1 := c_spec_TestsOk us ha
  have C2 := c_spec_StateOk us.length s
  rw [call_k lf n_spec_NextInCount _ (F := F_spec_NextInCount) rfl rfl]
  unfold nxL nxOk
  cases h : tsOk us with
  | false =>
    rw [h] at C1
    simp [F_spec_NextInCount, C1]
  | true =>
    rw [h] at C1
    cases h2 : stOk us.length s with
    | false =>
      rw [h2] at C2
      simp [F_spec_NextInCount, C1, C2]
    | true =>
      rw [h2] at C2
      have ht := tsOk_iff.1 h
      have h5 : us.length ≤ 5 := by omega
      obtain ⟨p0, p1, p2⟩ := pow5 (m := us.length) (by omega) (by omega)
      rw [Int.toNat_natCast] at p0 p1 p2
      have hs : 0 ≤ s ∧ s < 2 ^ us.length := by
        unfold stOk at h2
        rw [Bool.and_eq_true, decide_eq_true_eq, Int.toNat_natCast] at h2
        exact h2.2
      obtain ⟨so, rfl⟩ := Int.eq_ofNat_of_zero_le hs.1
      have hs' : so < 2 ^ us.length := by omega
      have H := c_spec_l8Heads (n := so) (by omega)
      rw [pcs h5 hs'] at H
      have I := c_spec_l1In k 1 (hdN us.length so)
      rw [Int.toNat_natCast]
      by_cases hk : 1 ≤ k ∧ k ≤ hdN us.length so
      · rw [decide_eq_true hk] at I
        obtain ⟨n, rfl⟩ := Int.eq_ofNat_of_zero_le (show 0 ≤ k by omega)
        have hd := hd_le us.length so
        have n1 : 1 ≤ n := by omega
        have n2 : n ≤ hdN us.length so := by omega
        have F1 := c_spec_l8First h (row := 1) (.inr rfl) (so := so) (n := n) (by omega) (by omega)
        have F2 := c_spec_l8First h (row := 0) (.inl rfl) (so := so) (n := hdN us.length so - n + 1) (by omega) (by omega)
        obtain ⟨x1, x2, x3, x4⟩ := nx_ok ht.2 h5 n1 n2
        have b32 := bB_lt h5 so n
        have q1 := (fF_ok (so := so) (n := n) (oN_nd us 1) fun x hx => by have := oN_mem hx; omega).1
        have q2 := (fF_ok (so := so) (n := hdN us.length so - n + 1) (oN_nd us 0) fun x hx => by have := oN_mem hx; omega).1
        have an := and_nat q1 q2
        have eb : fF so n (oN us 1) &&& fF so (hdN us.length so - n + 1) (oN us 0) = bB us so n := rfl
        rw [eb] at an
        have w1 : wr ((hdN us.length so : Nat) - (n : Int)) = ((hdN us.length so - n : Nat) : Int) := by rw [wr_id (by omega) (by omega)]; omega
        have w2 : wr (((hdN us.length so - n : Nat) : Int) + 1) = ((hdN us.length so - n + 1 : Nat) : Int) := by rw [wr_id (by omega) (by omega)]; omega
        have L := loop_count (lf := lf) (L := F_spec_NextInCount_L0) (nx us so n) (fun i => stNx us (bB us so n) i) (x := .ret) (R := ⟨[(6, .i (nx us so n))], []⟩) (fun i hi => by
          have hi' : (i : Int) < us.length := by omega
          have hi2 : i < us.length := by omega
          have br := bit_rem (so := bB us so n) (i := i) (by omega)
          rw [x4 i hi] at br
          have z : (bI false == 1) = false := rfl
          have ni : ¬ (i : Int) < 0 := by omega
          have w3 : wr ((i : Int) + 1) = ((i + 1 : Nat) : Int) := by rw [wr_id (by omega) (by omega)]; omega
          unfold stNx
          generalize bB us so n = b at *
          simp [F_spec_NextInCount_L0, hi', hi2, br, z, ni, w3, -Int.natCast_add]) (by
          have br := bit_rem (so := bB us so n) (i := nx us so n) (by omega)
          rw [x3] at br
          have z : (bI true == 1) = true := rfl
          unfold stNx
          generalize bB us so n = b at *
          generalize nx us so n = i at *
          have ni : ¬ (i : Int) < 0 := by omega
          have hi' : (i : Int) < us.length := by omega
          simp [F_spec_NextInCount_L0, hi', x1, br, z, ni]) (by simp)
        unfold stNx at L
        simp only [Int.natCast_zero] at L
        change ex lf F_spec_NextInCount_W0 _ = _ at L
        rw [Int.toNat_natCast, decide_eq_true hk]
        generalize bB us so n = b at *
        generalize fF so n (oN us 1) = fa at *
        generalize fF so (hdN us.length so - n + 1) (oN us 0) = fb at *
        generalize hdN us.length so - n + 1 = z1 at *
        generalize hdN us.length so - n = z2 at *
        generalize hdN us.length so = z3 at *
        generalize nx us so n = i at *
        simp [F_spec_NextInCount, C1, C2, H, I, F1, F2, an, w1, w2, L]
      · rw [decide_eq_false hk] at I
        rw [decide_eq_false hk]
        generalize hdN us.length so = z3 at *
        simp [F_spec_NextInCount, C1, C2, H, I]
def stFi (so n out m j : Nat) (cs : List DV) : LS := ⟨[(1, .i so), (2, .i n), (7, .i out), (10, .sl 0 cs), (11, .i m), (12, .i j)], []⟩
set_option maxHeartbeats 8000000 in
theorem c_impl_firstLeft {l : List Nat} (nd : l.Nodup) (h5 : ∀ x ∈ l, x < 5) (h6 : l.length ≤ 10) {so n : Nat} (hn : n ≤ 10) : call lf n_impl_firstLeft [.sl 0 (l.map eNat), .i so, .i n] = some (.i (fF so n l), []) := by
  have lm := eNat_len l
  have L := loop_count (lf := lf) (L := F_impl_firstLeft_L0) l.length (fun j => stFi so n (fF so n (l.take j)) l.length j (l.map eNat)) (x := .exit 0) (R := stFi so n (fF so n (l.take l.length)) l.length l.length (l.map eNat)) (fun j hj => by
    have hk : l[j]? = some l[j] := List.getElem?_eq_getElem hj
    have k5 := h5 _ (List.getElem_mem hj)
    obtain ⟨f1, f2, f3⟩ := fF_take (so := so) (n := n) nd h5 hk
    have A1 := eNat_atI hk
    have A2 := eNat_atN hk
    rw [f1]
    generalize l[j] = k at *
    generalize fF so n (l.take j) = a at *
    have S := c_impl_sizeOf f2
    have HT := c_impl_hasTest so k (by omega)
    have ni : ¬ (k : Int) < 0 := by omega
    have w1 : wr ((j : Int) + 1) = ((j + 1 : Nat) : Int) := by rw [wr_id (by omega) (by omega)]; omega
    have hj' : (j : Int) < l.length := by omega
    have sh := shl_nat (k := k) (by omega)
    have oe := or_nat2 f2 k5
    unfold stFi stpF
    generalize l.map eNat = M at *
    by_cases hc : pc a < n
    · have hc' : ((pc a : Nat) : Int) < n := by omega
      cases hb : so.testBit k with
      | false =>
        rw [hb] at HT
        rw [if_neg (by simp)]
        generalize pc a = p at *
        simp [F_impl_firstLeft_L0, hj, hj', A1, A2, lm, S, HT, hc, hc', w1, -Int.natCast_add, -Int.natCast_pow]
      | true =>
        rw [hb] at HT
        rw [if_pos ⟨hc, rfl⟩]
        generalize (a ||| 2 ^ k : Nat) = a' at *
        generalize (2 ^ k : Nat) = tp at *
        generalize pc a = p at *
        simp [F_impl_firstLeft_L0, hj, hj', A1, A2, lm, S, HT, hc, hc', ni, sh, oe, w1, -Int.natCast_add, -Int.natCast_pow]
    · have hc' : ¬ ((pc a : Nat) : Int) < n := by omega
      rw [if_neg fun q => hc q.1]
      generalize pc a = p at *
      simp [F_impl_firstLeft_L0, hj, hj', A1, A2, lm, S, hc, hc', w1, -Int.natCast_add, -Int.natCast_pow]) (by
    unfold stFi
    generalize l.map eNat = M at *
    simp [F_impl_firstLeft_L0, lm]) (by simp)
  have z1 : fF so n (l.take 0) = 0 := rfl
  rw [z1, List.take_length] at L
  unfold stFi at L
  simp only [Int.natCast_zero] at L
  change ex lf F_impl_firstLeft_W0 _ = _ at L
  generalize l.map eNat = M at *
  rw [call_k lf n_impl_firstLeft _ (F := F_impl_firstLeft) rfl rfl]
  simp [F_impl_firstLeft, L, lm]
/-- the lowest bit -/
def tzN (n : Nat) : Nat := if n % 2 = 1 then 0 else if n / 2 % 2 = 1 then 1 else if n / 4 % 2 = 1 then 2 else if n / 8 % 2 = 1 then 3 else 4
theorem tz_fin : ∀ (n : _root_.Fin 32) (k : _root_.Fin 5), n.val.testBit k.val = true → (∀ i : _root_.Fin 5, i.val < k.val → n.val.testBit i.val = false) → tzN n.val = k.val := by decide +kernel
theorem c_TrailingZeros64 {n : Nat} (h : n < 32) (h0 : n ≠ 0) : call lf n_math_bits_TrailingZeros64 [.q n] = some (.i (tzN n), []) := by
  rw [call_k lf n_math_bits_TrailingZeros64 _ (F := F_math_bits_TrailingZeros64) rfl rfl]
  have c : n = 1 ∨ n = 2 ∨ n = 3 ∨ n = 4 ∨ n = 5 ∨ n = 6 ∨ n = 7 ∨ n = 8 ∨ n = 9 ∨ n = 10 ∨ n = 11 ∨ n = 12 ∨ n = 13 ∨ n = 14 ∨ n = 15 ∨ n = 16 ∨ n = 17 ∨ n = 18 ∨ n = 19 ∨ n = 20 ∨ n = 21 ∨ n = 22 ∨ n = 23 ∨ n = 24 ∨ n = 25 ∨ n = 26 ∨ n = 27 ∨ n = 28 ∨ n = 29 ∨ n = 30 ∨ n = 31 := by omega
  rcases c with rfl | rfl | rfl | rfl | rfl | rfl | rfl | rfl | rfl | rfl | rfl | rfl | rfl | rfl | rfl | rfl | rfl | rfl | rfl | rfl | rfl | rfl | rfl | rfl | rfl | rfl | rfl | rfl | rfl | rfl | rfl <;>
    simp [F_math_bits_TrailingZeros64, gEnv_1, tzN]
theorem c_TrailingZeros {n : Nat} (h : n < 32) (h0 : n ≠ 0) : call lf n_math_bits_TrailingZeros [.q n] = some (.i (tzN n), []) := by
  have C := c_TrailingZeros64 h h0
  rw [call_k lf n_math_bits_TrailingZeros _ (F := F_math_bits_TrailingZeros) rfl rfl]
  simp [F_math_bits_TrailingZeros, C]
set_option maxHeartbeats 8000000 in
theorem c_impl_NextInCount (us : List T) (s k : Int) (ha : (us.length : Int) < 1099511627776) : call lf n_impl_NextInCount [.sl 0 (us.map e2), .i s, .i k] = some (.i (nxL us s k), []) := by
  have C1 := c_impl_TestsOk us ha
  have C2 := c_impl_StateOk us.length s
  rw [call_k lf n_impl_NextInCount _ (F := F_impl_NextInCount) rfl rfl]
  unfold nxL nxOk
  cases h : tsOk us with
  | false =>
    rw [h] at C1
    simp [F_impl_NextInCount, C1]
  | true =>
    rw [h] at C1
    cases h2 : stOk us.length s with
    | false =>
      rw [h2] at C2
      simp [F_impl_NextInCount, C1, C2]
    | true =>
      rw [h2] at C2
      have ht := tsOk_iff.1 h
      have h5 : us.length ≤ 5 := by omega
      obtain ⟨p0, p1, p2⟩ := pow5 (m := us.length) (by omega) (by omega)
      rw [Int.toNat_natCast] at p0 p1 p2
      have hs : 0 ≤ s ∧ s < 2 ^ us.length := by
        unfold stOk at h2
        rw [Bool.and_eq_true, decide_eq_true_eq, Int.toNat_natCast] at h2
        exact h2.2
      obtain ⟨so, rfl⟩ := Int.eq_ofNat_of_zero_le hs.1
      have hs' : so < 2 ^ us.length := by omega
      have H := c_impl_sizeOf (n := so) (by omega)
      rw [pcs h5 hs'] at H
      have I := c_impl_isWithin k 1 (hdN us.length so)
      rw [Int.toNat_natCast]
      by_cases hk : 1 ≤ k ∧ k ≤ hdN us.length so
      · rw [decide_eq_true hk] at I
        obtain ⟨n, rfl⟩ := Int.eq_ofNat_of_zero_le (show 0 ≤ k by omega)
        have hd := hd_le us.length so
        have n1 : 1 ≤ n := by omega
        have n2 : n ≤ hdN us.length so := by omega
        have R1 := c_impl_RatioOrder us 1 ha
        have R0 := c_impl_RatioOrder us 0 ha
        have er : ∀ row, (row = 0 ∨ row = 1) → roL us row = rO us row us.length := fun row hr => by
          have rw1 : rwOk row = true := by rcases hr with rfl | rfl <;> rfl
          unfold roL; rw [h, rw1]; rfl
        rw [er 1 (.inr rfl), eN_map] at R1
        rw [er 0 (.inl rfl), eN_map] at R0
        have ol := fun row => show (oN us row).length = us.length by rw [(oN_perm us row).length_eq, List.length_range]
        have l5 := fun row => show ∀ x ∈ oN us row, x < 5 from fun x hx => by have := oN_mem hx; omega
        have F1 := c_impl_firstLeft (so := so) (n := n) (oN_nd us 1) (l5 1) (by rw [ol]; omega) (by omega)
        have F2 := c_impl_firstLeft (so := so) (n := hdN us.length so - n + 1) (oN_nd us 0) (l5 0) (by rw [ol]; omega) (by omega)
        obtain ⟨x1, x2, x3, x4⟩ := nx_ok ht.2 h5 n1 n2
        have b32 := bB_lt h5 so n
        have b0 : bB us so n ≠ 0 := fun e => by rw [e] at x3; simp at x3
        have q1 := (fF_ok (so := so) (n := n) (oN_nd us 1) (l5 1)).1
        have q2 := (fF_ok (so := so) (n := hdN us.length so - n + 1) (oN_nd us 0) (l5 0)).1
        have an := and_nat q1 q2
        have eb : fF so n (oN us 1) &&& fF so (hdN us.length so - n + 1) (oN us 0) = bB us so n := rfl
        rw [eb] at an
        have Z := c_TrailingZeros b32 b0
        rw [tz_fin ⟨bB us so n, b32⟩ ⟨nx us so n, by omega⟩ x3 fun i hi => x4 i.val hi] at Z
        have e : (((bB us so n : Nat) : Int) % 18446744073709551616).toNat = bB us so n := by omega
        have w1 : wr ((hdN us.length so : Nat) - (n : Int)) = ((hdN us.length so - n : Nat) : Int) := by rw [wr_id (by omega) (by omega)]; omega
        have w2 : wr (((hdN us.length so - n : Nat) : Int) + 1) = ((hdN us.length so - n + 1 : Nat) : Int) := by rw [wr_id (by omega) (by omega)]; omega
        have lm := fun row => show ((oN us row).map eNat).length = us.length by rw [eNat_len, ol]
        have lE := fun row => eNat_lend (oN us row)
        have nw := fun row => show allNewL ((oN us row).map eNat) = true by rw [allNewL_all, List.all_map, List.all_eq_true]; intro x _; rfl
        have ad := fun o row => show adoptL o ((oN us row).map eNat) = (oN us row).map eNat by rw [adoptL_map, List.map_map]; rfl
        have lm1 := lm 1
        have lm0 := lm 0
        have lE1 := lE 1
        have lE0 := lE 0
        have nw1 := nw 1
        have nw0 := nw 0
        have ad1 := fun o => ad o 1
        have ad0 := fun o => ad o 0
        have tk1 : List.take us.length ((oN us 1).map eNat) = (oN us 1).map eNat := List.take_of_length_le (by rw [lm1]; exact Nat.le_refl _)
        have tk0 : List.take us.length ((oN us 0).map eNat) = (oN us 0).map eNat := List.take_of_length_le (by rw [lm0]; exact Nat.le_refl _)
        clear lm lE nw ad er
        rw [Int.toNat_natCast, decide_eq_true hk]
        simp only at Z
        generalize bB us so n = b at *
        generalize fF so n (oN us 1) = fa at *
        generalize fF so (hdN us.length so - n + 1) (oN us 0) = fb at *
        generalize hdN us.length so - n + 1 = z1 at *
        generalize hdN us.length so - n = z2 at *
        generalize hdN us.length so = z3 at *
        generalize nx us so n = i at *
        generalize (oN us 1).map eNat = M1 at *
        generalize (oN us 0).map eNat = M0 at *
        simp [F_impl_NextInCount, C1, C2, H, I, R1, R0, F1, F2, an, w1, w2, Z, e, lm1, lm0, lE1, lE0, nw1, nw0, ad1, ad0, tk1, tk0]
      · rw [decide_eq_false hk] at I
        rw [decide_eq_false hk]
        generalize hdN us.length so = z3 at *
        simp [F_impl_NextInCount, C1, C2, H, I]
end
end Zz
