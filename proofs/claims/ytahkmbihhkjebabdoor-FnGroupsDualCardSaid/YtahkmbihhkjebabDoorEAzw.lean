/- What the functions answer, as equations: EA. No conditions. -/
import Derived.Test.YtahkmbihhkjebabDoorIrzw
import Derived.Test.YtahkmbihhkjebabDoorE0
set_option linter.unusedSectionVars false
set_option linter.unusedVariables false
set_option linter.unusedSimpArgs false
namespace Zz
open Go.Lg Md
set_option linter.unusedSimpArgs false
set_option linter.unusedVariables false
attribute [local simp] tm_mv tm_newnil tm_pick tm_bin tm_eqb tm_eqs tm_un tm_len tm_lens tm_chk tm_fld tm_fldv tm_idxa tm_idx tm_load tm_store tm_slice tm_slices tm_make tm_alloc tm_box tm_build tm_app tm_conv tm_ext tm_call tm_calld tm_mkfn tm_mm tm_idxp tm_eqn tm_callg tm_callm tm_bslice0 tm_bslice1 tm_bslice2 tm_bslice nt_nil nt_cons nc_nil' nc_cons sa_mkfn cv_adr cv_i cv_y cv_b cv_w sa_calld nm_def nh_nil nh_cons nxM_some nxM_none sc_st sd_i sd_y sd_b sd_s sd_w sd_q sc_i sc_y sc_b sc_s sc_w sc_q sa_bslice sa_app nc_own nc_nil sa_call sa_alloc sa_build sa_callm rm_nil rm_one rm_gen bq_mul bq_eql ia_mv ia_newnil ia_pick ia_bin ia_eqb ia_eqs ia_un ia_len ia_lens ia_chk ia_fld ia_fldv ia_idxa ia_idx ia_load ia_store ia_slice ia_slices ia_make ia_alloc ia_box ia_build ia_bslice ia_app ia_b2i ia_i2b ia_i2i ia_same ia_b2s ia_s2b ia_ext ia_mm ia_idxp ia_calld ia_mkfn ia_i2r ia_r2s ia_call pt_nil pt_cons mi_nil mi_cons md_bslice md_mv md_newnil md_pick md_bin md_eqb md_un md_len md_lens md_fld md_fldv md_idxa md_idx md_load md_store md_slice md_slices md_make md_alloc md_box md_build md_app md_conv md_ext md_call md_calld md_callg md_mkfn md_mm md_idxp md_eqn md_eqs md_chk tg_bslice tg_mv tg_newnil tg_pick tg_bin tg_eqb tg_un tg_len tg_lens tg_fld tg_fldv tg_idxa tg_idx tg_load tg_store tg_slice tg_slices tg_make tg_alloc tg_box tg_build tg_app tg_conv tg_ext tg_call tg_calld tg_callg tg_mkfn tg_mm tg_idxp tg_eqn tg_eqs tg_chk rp_eq ro_eq ifP_t ifP_f np_def ng1_nil ng2_nil ng_gate ng_gen tgA_t tgA_0 tgA_1 tgA_2 aC_nil aC_c aC_t nxP_some nxP_none rq_nil rq_gen rq_gate nxR_some nxR_none ru_nil ru_gen ru_gate pl_none pl_some gt_nil gt_t gt_c di_some di_none an_nil an_cons nxG_some nxG_none rg_nil rg_gen rg_gate oldO_some oa_nil oa_i oa_y oa_b oa_s oa_st oa_sl oa_own oa_oad oa_nl al_nil al_cons al_i al_y al_b al_s al_st al_sl nxF_some nxF_none rf_nil rf_gen rf_gate hk_newnil hk_make hk_alloc hk_box hk_build hk_bslice hk_call hk_store hk_app hk_appn em_cel mm_cel ok_cel ov_cel so_cel il_cel oi_cel oj_cel ol_cel nm_cel hk_appc ef_bslice5 ef_app_cel ks_shut shu_own shc_none shc_cel cl_nil cl_cons ai_nil ai_cons il_i il_y il_b il_s il_st il_sl il_own il_adr il_oad il_ref il_fr il_tup il_nil il_np il_und il_dead ol_adr ol_b ol_dead ol_e ol_fn ol_fr ol_i ol_nil ol_np ol_oad ol_own ol_q ol_r ol_ref ol_s ol_sl ol_st ol_tup ol_und ol_w ol_y oj_e oj_i oj_y oj_b oj_s oj_st oj_sl oj_own oj_adr oj_oad oj_ref oj_fr oj_tup oj_nil oj_np oj_und oj_dead oj_w oj_q oj_r oj_fn oi_e oi_i oi_y oi_b oi_s oi_st oi_sl oi_own oi_adr oi_oad oi_ref oi_fr oi_tup oi_nil oi_np oi_und oi_dead as_nil as_cons ao_nil ao_cons av_i av_y av_b av_s av_st av_sl av_own av_adr av_oad av_ref av_fr av_tup av_nil av_np av_und av_dead pro_cons ghK_some ks_promote ks_freeze frz_own ks_rename ren_own dropO adoptP newP wholeP cutP allOldL ex_skip ex_ret ex_exit ks_region ks_seq ks_cond ks_block seqK_n seqK_e seqK_r regK_some condK_t condK_f blkK_n blkK_r blkK_e endK_n endK_r rr_false rr_true rd_free mo_nil mo_cons drK_some drK_none nxW_some nxW_none rw_nil rw_gen rw_gate ak_newnil ak_make ak_alloc ak_box ak_build ak_bslice ak_call ak_store ak_app iw_mm iw_eqn iw_idxp ef_callg cgK_some gv_e gv_own gv_i gv_sl gv_st gv_b gv_nil gvK_some gvO_some iw_callg ia_callg ak_callg hk_callg is_mv is_newnil is_pick is_bin is_eqb is_eqs is_un is_len is_lens is_chk is_fld is_fldv is_idxa is_idx is_load is_slice is_slices is_make is_alloc is_box is_build is_bslice is_app is_conv is_ext is_call is_calld is_callg is_mkfn is_mm is_idxp is_eqn is_store rt_nil rt_gen rt_gate nxT_some nxT_none ef_eqn_nil ef_eqn_sl ef_eqn_own ia_eqn ef_mmx ef_mmn ef_idxp nxD_some nxD_none ov_i ov_y ov_b ov_s ov_st ov_sl ov_own ov_oad ov_adr ov_nil ov_np ov_und ov_dead ov_tup oldN_some oldN_nil oldN_none so_none so_i so_y so_b so_s so_st so_sl so_adr so_nil so_np so_und so_dead anyM_nil anyM_t anyM_c so_own so_oad rd_nil rd_gen rd_mv rd_gate iw_mv iw_newnil iw_pick iw_bin iw_eqb iw_eqs iw_un iw_len iw_lens iw_chk iw_fld iw_fldv iw_idxa iw_idx iw_load iw_store iw_slice iw_slices iw_make iw_alloc iw_box iw_build iw_bslice iw_app iw_b2i iw_i2b iw_i2i iw_same iw_b2s iw_s2b iw_ext iw_call nm_i nm_y nm_b nm_s nm_st nm_sl nm_own nm_oad nm_adr nm_nil nm_np nm_und nm_dead nm_tup rl_nil rl_gate rl_mv rl_gen opv_t opv_c nx_some nx_none gate_tt gate_tf gate_ft gate_ff gate_u fr_ap em_nil em_i em_y em_b em_s em_st em_sl em_own em_adr em_oad em_ref em_nl em_np em_und em_dead em_tup0 em_tup_i em_tup_b em_tup_s em_tup_sl em_tup_st em_tup_np em_tup_own em_tup_oad mm_i mm_y mm_b mm_s mm_st mm_sl mm_own mm_oad mm_adr mm_nil mm_np mm_und mm_dead ef_mv ef_newnil ef_pickt ef_pickf ef_bin ef_eqb ef_eqs ef_un ef_lens ef_len_sl ef_len_own ef_len_nil ef_chk_adr ef_chk_oad ef_fld_adr ef_fld_oad ef_fldv idxR_some ef_idxa_sl ef_idxa_own ef_idx ef_load_adr_st ef_load_adr_i ef_load_adr_y ef_load_adr_b ef_load_adr_s ef_load_adr_sl atN_nil atN_zero atN_succ ef_load_oad ef_store ef_slice ef_slices ef_make ef_alloc ef_box ef_build ef_bslice ef_app_own ef_app_nil ef_b2i ef_i2b ef_i2i ef_same ef_ext ret1 ret2_some calL_some ef_call retC_i retC_y retC_b retC_s retC_st retC_sl retC_np retC_fr retC_ref retC_tup rk_nil rk_i rk_y rk_b rk_s rk_st rk_sl rk_own rk_oad rk_nl ok_nil ok_i ok_y ok_b ok_s ok_st ok_sl ok_own ok_oad ok_nl lo_nil lo_i lo_y lo_b lo_s lo_st lo_sl lo_own lo_oad lo_nl pr_nil pr_i pr_y pr_b pr_s pr_st pr_sl pr_own pr_nl pr_oad nr_i nr_y nr_b nr_s nr_st nr_sl nr_fr nr_np nr_tup ng_i ng_b ng_s ng_fr ng_nil resV effP_eff binD bi_add bi_sub bi_mul bi_quo bi_rem bi_eql bi_neq bi_lss bi_leq bi_gtr bi_geq bi_shl bi_shr bi_and bi_or bi_xor bi_andNot binY binS unD look put putD LS.get LS.drop killE sweep lookO putO dropO enter leave giveBackL giveBack outs lendArgs lendArg newOuts takeIn takeInL lendL DV.lend adoptL DV.adopt elems apartKs part DV.cells unpart settle settleL over mkId szId fillP fillE tk_e2 tk_i tk_y lt_e2 lt_i lt_y lend_rep al_e2 al_is al_ys al_rep al_app lend_app adopt_app new_app lend_e2 lend_i lend_y adopt_e2 adopt_i adopt_y new_e2 new_i allNewL DV.allNew bounds sliceD sliceS em_w em_q em_r em_fn em_tup_w em_tup_q em_tup_r mm_w mm_q mm_r mm_fn ef_load_adr_w ef_load_adr_q ef_load_adr_r retC_w retC_q retC_r rk_w rk_q rk_r rk_fn ok_w ok_q ok_r ok_fn lo_w lo_q lo_r lo_fn pr_w pr_q pr_r pr_fn nr_w nr_q nr_r ng_w ng_q ng_r oa_w oa_q oa_r oa_fn al_w al_q al_r al_fn ov_w ov_q ov_r ov_fn so_w so_q so_r so_fn il_w il_q il_r il_fn oi_w oi_q oi_r oi_fn av_w av_q av_r av_fn nm_w nm_q nm_r nm_fn ef_i2r ef_r2s ef_mkfn ef_mkbd ef_idxp_adr ef_idxp_q ef_calld_nil ef_calld_adr ef_calld_bd DV.capB capsOk DV.cell List.all_cons List.all_nil rk_own_t lo_own_t lk_f lk_t pr_own_t mutB ak_calld hk_calld iw_calld iw_mkfn iw_i2r iw_r2s bw_and bw_or bw_xor bw_andNot bw_eql bw_neq sw_shl sw_shr sq_shl gEnv_nil rk_adr ok_adr lo_adr pr_adr oa_adr capL capArg DV.cap ak_mkfn hk_mkfn hk_mkbd ef_callm gf_ap ga_nil ga_cons tgv_own gk_e gk_giv gk_i gk_y gk_b gk_s gk_w gk_q gk_r gk_fn gk_st gk_sl gk_own gk_oad gk_adr gk_nl gk_np rk_giv ok_giv lo_giv pr_giv oa_giv iw_callm hk_callm ak_callm is_callm ia_callm tg_callm md_callm ef_i2q ef_q2i ef_q2q iw_i2q iw_q2i iw_q2q ia_i2q ia_q2i ia_q2q bq_and bq_add bq_shr sq_shr tgv_nil gk_ref rk_ref ok_ref lo_ref pr_ref oa_ref retC_fn nr_fn ef_load_adr_fn ks_close cls_oad
attribute [local congr] nxM_congr ifP_congr nxP_congr nxR_congr nxT_congr nxG_congr nxF_congr ghK_congr gate_congr nx_congr nxD_congr runL_congr runD_congr eff_congr calL_congr ret2_congr seqK_congr regK_congr condK_congr endK_congr drK_congr nxW_congr
attribute [local simp ↓] nxM_some rm_nil rm_one rm_gen nxT_some rt_nil rt_gen rt_gate nxP_some rq_nil rq_gen rq_gate nxR_some ru_nil ru_gen ru_gate nxG_some rg_nil rg_gen rg_gate nxF_some rf_nil rf_gen rf_gate ks_promote ks_freeze frz_own ks_rename ghK_some gate_tt gate_tf gate_ft gate_ff gate_u nx_some nxD_some rl_nil rl_mv rl_gen rl_gate rd_nil rd_mv rd_gen rd_gate rd_free rr_false rr_true drK_some drK_none nxW_some rw_nil rw_gen rw_gate ks_region ks_seq ks_cond ks_block seqK_n seqK_e seqK_r regK_some condK_t condK_f blkK_n blkK_r endK_n endK_r calL_some ret2_some opv_t opv_c
section
theorem c_impl_isWithin (a b c : Int) : call lf n_impl_isWithin [.i a, .i b, .i c] = some (.b (decide (b ≤ a ∧ a ≤ c)), []) := by
  rw [call_k lf n_impl_isWithin _ (F := F_impl_isWithin) rfl rfl]
  by_cases h : b ≤ a <;> simp [F_impl_isWithin, h]
theorem c_impl_manyOk (a : Int) : call lf n_impl_manyOk [.i a] = some (.b (nOk a), []) := by
  rw [call_k lf n_impl_manyOk _ (F := F_impl_manyOk) rfl rfl]
  simp [F_impl_manyOk, c_impl_isWithin, nOk]

theorem l_impl_TestsOk (n : Int) (hb : n < 1099511627776) (es : List DV) (rest : List T) : ∀ k : Int, 0 ≤ k → k + (rest.map e2).length = n → es.drop k.toNat = rest.map e2 →
    ex lf F_impl_TestsOk_W0 ⟨[(9, .sl 0 es), (10, .i n), (11, .i k)], []⟩ =
    if rest.all tOk then some (.exit 0, ⟨[(9, .sl 0 es), (10, .i n), (11, .i n)], []⟩) else some (.ret, ⟨[(2, .b false)], []⟩) := by
  induction rest with
  | nil =>
    intro k h0 hn hd
    rw [w_impl_TestsOk_0]
    have hk : k = n := by simpa using hn
    simp [F_impl_TestsOk_L0, hk]
  | cons t rest ih =>
    intro k h0 hn hd
    obtain ⟨q1, q2, q3, q4, q5, q6⟩ := stp h0 hn hb hd
    have ih := ih (k + 1) q4 q5 q6
    simp only [e2] at q2
    rw [w_impl_TestsOk_0]
    have xt := tOk_def t
    cases x1 : decide (1 ≤ t.1 ∧ t.1 ≤ 9) <;> cases x2 : decide (1 ≤ t.2 ∧ t.2 ≤ 5) <;> rw [x1, x2] at xt <;> simp [F_impl_TestsOk_L0, q1, q2, q3, c_impl_isWithin, ih, xt, x1, x2, -List.all_eq_true]
theorem c_impl_TestsOk (ts : List T) (hb : (ts.length : Int) < 1099511627776) : call lf n_impl_TestsOk [.sl 0 (ts.map e2)] = some (.b (tsOk ts), []) := by
  rw [call_k lf n_impl_TestsOk _ (F := F_impl_TestsOk) rfl rfl]
  have L := l_impl_TestsOk ts.length hb (ts.map e2) ts 0 (by omega) (by simp) (by simp)
  cases h1 : nOk ts.length <;> cases h2 : ts.all tOk <;> simp [F_impl_TestsOk, c_impl_manyOk, L, h1, h2, tsOk]

theorem c_impl_statesOf (a : Int) (h0 : 0 ≤ a) (h5 : a ≤ 40) : call lf n_impl_statesOf [.i a] = some (.i (2 ^ a.toNat), []) := by
  rw [call_k lf n_impl_statesOf _ (F := F_impl_statesOf) rfl rfl]
  have h1 : ¬ a < 0 := by omega
  simp [F_impl_statesOf, h1, shl1 h0 h5]
theorem nOk_iff {a : Int} : nOk a = true ↔ 1 ≤ a ∧ a ≤ 5 := by simp [nOk]
theorem c_impl_StateOk (a b : Int) : call lf n_impl_StateOk [.i a, .i b] = some (.b (stOk a b), []) := by
  rw [call_k lf n_impl_StateOk _ (F := F_impl_StateOk) rfl rfl]
  cases h : nOk a with
  | true =>
    have h' := nOk_iff.1 h
    have p := pow2_le (k := a) (by omega) (by omega)
    have w := wr_id (n := 2 ^ a.toNat - 1) (by omega) (by omega)
    have e : decide (0 ≤ b ∧ b ≤ 2 ^ a.toNat - 1) = decide (0 ≤ b ∧ b < 2 ^ a.toNat) := decide_eq_decide.2 (by omega)
    simp [F_impl_StateOk, c_impl_manyOk, c_impl_isWithin, h, stOk, c_impl_statesOf a (by omega) (by omega), w, e]
  | false => simp [F_impl_StateOk, c_impl_manyOk, c_impl_isWithin, h, stOk]
theorem c_impl_outcomeIn (s k : Int) (h0 : 0 ≤ k) (h5 : k ≤ 40) : call lf n_impl_outcomeIn [.i s, .i k] = some (.i (s / 2 ^ k.toNat % 2), []) := by
  rw [call_k lf n_impl_outcomeIn _ (F := F_impl_outcomeIn) rfl rfl]
  have h1 : ¬ k < 0 := by omega
  simp [F_impl_outcomeIn, h1, shr1 (a := s) h0 (show k ≤ 60 by omega), bit_and]

theorem l_impl_WeightOf (s : Int) (n : Int) (hb : n ≤ 5) (es : List DV) (rest : List T) (hr : rest.all tOk = true) : ∀ (k a : Int), 0 ≤ k → k + (rest.map e2).length = n → es.drop k.toNat = rest.map e2 → 1 ≤ a → a ≤ 6 ^ k.toNat →
    ex lf F_impl_WeightOf_W0 ⟨[(1, .i s), (5, .i a), (18, .sl 0 es), (19, .i n), (20, .i k)], []⟩ = some (.exit 0, ⟨[(1, .i s), (5, .i (a * wt rest (s / 2 ^ k.toNat))), (18, .sl 0 es), (19, .i n), (20, .i n)], []⟩) := by
  induction rest with
  | nil =>
    intro k a h0 hn hd _ _
    rw [w_impl_WeightOf_0]
    have hk : k = n := by simpa using hn
    simp [F_impl_WeightOf_L0, hk, wt]
  | cons t rest ih =>
    intro k a h0 hn hd ha1 ha2
    simp only [List.all_cons, Bool.and_eq_true] at hr
    obtain ⟨q1, q2, q3, q4, q5, q6⟩ := stp h0 hn (by omega) hd
    have tk := tOk_iff.1 hr.1
    simp only [e2] at q2
    have oc := c_impl_outcomeIn s k h0 (by omega)
    have w6 : wr (6 - t.2) = 6 - t.2 := wr_id (by omega) (by omega)
    rw [w_impl_WeightOf_0]
    by_cases hx : s / 2 ^ k.toNat % 2 = 1
    · obtain ⟨m1, m2, m3⟩ := mulw (c := t.2) ha1 ha2 (by omega) (by omega) h0 (by omega)
      have ih := ih hr.2 (k + 1) (a * t.2) q4 q5 q6 m2 m3
      rw [div_pow_succ s h0] at ih
      simp [F_impl_WeightOf_L0, q1, q2, q3, oc, hx, m1, ih, wt, Int.mul_assoc]
    · obtain ⟨m1, m2, m3⟩ := mulw (c := 6 - t.2) ha1 ha2 (by omega) (by omega) h0 (by omega)
      have ih := ih hr.2 (k + 1) (a * (6 - t.2)) q4 q5 q6 m2 m3
      rw [div_pow_succ s h0] at ih
      have hx' : ((s / 2 ^ k.toNat % 2) == 1) = false := beq_eq_false_iff_ne.2 hx
      simp [F_impl_WeightOf_L0, q1, q2, q3, oc, hx, hx', m1, w6, ih, wt, Int.mul_assoc]
theorem tsOk_iff {ts : List T} : tsOk ts = true ↔ (1 ≤ (ts.length : Int) ∧ (ts.length : Int) ≤ 5) ∧ ts.all tOk = true := by
  rw [tsOk, Bool.and_eq_true, nOk_iff]
theorem c_impl_WeightOf (ts : List T) (s : Int) (hb : (ts.length : Int) < 1099511627776) : call lf n_impl_WeightOf [.sl 0 (ts.map e2), .i s] = some (.i (wtOf ts s), []) := by
  rw [call_k lf n_impl_WeightOf _ (F := F_impl_WeightOf) rfl rfl]
  have C := c_impl_TestsOk ts hb
  cases h1 : tsOk ts with
  | false => simp [F_impl_WeightOf, C, h1, wtOf]
  | true =>
    have h1' := tsOk_iff.1 h1
    cases h2 : stOk ts.length s with
    | false => simp [F_impl_WeightOf, C, c_impl_StateOk, h1, h2, wtOf]
    | true =>
      have L := l_impl_WeightOf s ts.length (by omega) (ts.map e2) ts h1'.2 0 1 (by omega) (by simp) (by simp) (by omega) (by simp)
      simp at L
      simp [F_impl_WeightOf, C, c_impl_StateOk, h1, h2, wtOf, L]

theorem stOk_iff {n s : Int} : stOk n s = true ↔ (1 ≤ n ∧ n ≤ 5) ∧ 0 ≤ s ∧ s < 2 ^ n.toNat := by
  rw [stOk, Bool.and_eq_true, nOk_iff, decide_eq_true_eq]
theorem ksOk_iff {m : Int} {ks : List Int} : ksOk m ks = true ↔ (1 ≤ m ∧ m ≤ 5) ∧ (ks.length : Int) = m ∧ ks.all kOk = true := by
  rw [ksOk, Bool.and_eq_true, Bool.and_eq_true, nOk_iff, decide_eq_true_eq, and_assoc]
end
section
theorem p2 {ts : List T} (h : tsOk ts = true) : 1 ≤ (2 : Nat) ^ ts.length ∧ (2 : Nat) ^ ts.length ≤ 32 ∧ ((2 ^ ts.length : Nat) : Int) = 2 ^ ts.length := by
  have h' := tsOk_iff.1 h
  have a : (2 : Nat) ^ ts.length ≤ 2 ^ 5 := Nat.pow_le_pow_right (by omega) (by omega)
  exact ⟨Nat.pow_pos (by omega), by omega, by simp⟩
theorem at_e2 {ts : List T} {i : Nat} (hi : i < ts.length) : ∃ t, ts[i]? = some t ∧ t ∈ ts ∧ atI (ts.map e2) i = some (.st [.i t.1, .i t.2]) ∧ ts.take (i + 1) = ts.take i ++ [t] := by
  refine ⟨ts[i], List.getElem?_eq_getElem hi, List.getElem_mem hi, ?_, List.take_succ_eq_append_getElem hi⟩
  simp [atI, hi, e2]
def ot (ts : List T) (i : Nat) : List DV := ((ts.take i).map other).map e2
theorem ot_len {ts : List T} {i : Nat} (hi : i ≤ ts.length) : (ot ts i).length = i := by simp [ot]; omega
theorem ot_succ {ts : List T} {i : Nat} {t : T} (h : ts.take (i + 1) = ts.take i ++ [t]) : ot ts (i + 1) = ot ts i ++ [.st [.i t.1, .i (6 - t.2)]] := by
  simp [ot, h, e2, other]
def cn (ts : List T) (i : Nat) : List DV := ot ts i ++ List.replicate (ts.length - i) (.st [.i 0, .i 0])
theorem cn_len {ts : List T} {i : Nat} (hi : i ≤ ts.length) : (cn ts i).length = ts.length := by simp [cn, ot_len hi]; omega
theorem cn_get {ts : List T} {i : Nat} (hi : i < ts.length) : atN (cn ts i) i = some (.st [.i 0, .i 0]) := by
  show (cn ts i)[i]? = _
  have := ot_len (ts := ts) (i := i) (by omega)
  unfold cn
  rw [List.getElem?_append_right (by omega), this, Nat.sub_self, List.getElem?_replicate]
  simp; omega
theorem cn_set {ts : List T} {i : Nat} {t : T} (hi : i < ts.length) (h : ts.take (i + 1) = ts.take i ++ [t]) : (cn ts i).set i (.st [.i t.1, .i (6 - t.2)]) = cn ts (i + 1) := by
  have := ot_len (ts := ts) (i := i) (by omega)
  unfold cn
  rw [List.set_append_right _ _ (by omega), this, Nat.sub_self, ot_succ h, show ts.length - i = (ts.length - (i + 1)) + 1 by omega, List.replicate_succ, List.set_cons_zero, List.append_assoc]
  rfl
theorem cn_zero (ts : List T) : cn ts 0 = List.replicate ts.length (.st [.i 0, .i 0]) := by simp [cn, ot]
theorem cn_all (ts : List T) : cn ts ts.length = (ts.map other).map e2 := by simp [cn, ot]
theorem l_impl_OtherTests (ts : List T) (h1 : tsOk ts = true) :
    ex lf F_impl_OtherTests_W0 ⟨[(3, .own 5648 ts.length 0 ts.length), (12, .sl 0 (ts.map e2)), (13, .i ts.length), (14, .i 0)], [(5648, cn ts 0)]⟩ =
      some (.exit 0, ⟨[(3, .own 5648 ts.length 0 ts.length), (12, .sl 0 (ts.map e2)), (13, .i ts.length), (14, .i ts.length)], [(5648, cn ts ts.length)]⟩) := by
  have h1' := tsOk_iff.1 h1
  refine loop_count ts.length (fun i => ⟨[(3, .own 5648 ts.length 0 ts.length), (12, .sl 0 (ts.map e2)), (13, .i ts.length), (14, .i i)], [(5648, cn ts i)]⟩) (fun i hi => ?_) ?_ (by simp)
  · obtain ⟨t, q1, q2, q3, q4⟩ := at_e2 hi
    have hlt : ((i : Nat) : Int) < ts.length := by omega
    have w1 : wr ((i : Int) + 1) = (i : Int) + 1 := wr_id (by omega) (by omega)
    have tk := tOk_iff.1 (List.all_eq_true.1 h1'.2 t q2)
    have w6 : wr (6 - t.2) = 6 - t.2 := wr_id (by omega) (by omega)
    have c1 := cn_len (ts := ts) (i := i) (by omega)
    have c2 := cn_get hi
    have c3 := cn_set hi q4
    simp [F_impl_OtherTests_L0, hi, q3, w1, w6, c1, c2, c3]
  · simp [F_impl_OtherTests_L0]
theorem c_impl_OtherTests (ts : List T) (hb : (ts.length : Int) < 1099511627776) : call lf n_impl_OtherTests [.sl 0 (ts.map e2)] = some (.fr 2 ((others ts).map e2), []) := by
  rw [call_k lf n_impl_OtherTests _ (F := F_impl_OtherTests) rfl rfl]
  have C := c_impl_TestsOk ts hb
  cases h1 : tsOk ts with
  | false => simp [F_impl_OtherTests, C, h1, others]
  | true =>
    have h1' := tsOk_iff.1 h1
    have L := l_impl_OtherTests ts h1
    have b1 : (ts.length : Int) ≤ bound := by unfold bound; omega
    rw [cn_zero] at L
    simp [F_impl_OtherTests, C, h1, b1, L, others, cn_len, cn_all]
end
section
/-- a mark read with p parts before it -/
def mkS (m p : Int) (t : T) : Option Int :=
  if t.1 = 0 then (if 0 ≤ t.2 ∧ t.2 < m then some (p + 1) else none)
  else if t.1 = 1 then (if t.2 = 0 ∧ 1 ≤ p then some p else none)
  else if t.1 = 2 ∨ t.1 = 3 then (if t.2 = 0 ∧ 2 ≤ p then some (p - 1) else none)
  else none
def runM (m : Int) : Int → List T → Option Int
  | p, [] => some p
  | p, t :: r => match mkS m p t with
    | some q => runM m q r
    | none => none
def tmOk (m : Int) (ts : List T) : Bool := nOk m && decide ((ts.length : Int) ≤ 13) && runM m 0 ts == some 1
theorem c_impl_partsTaken (k : Int) : call lf n_impl_partsTaken [.i k] = some (.i (if k = 0 then 0 else if k = 1 then 1 else 2), []) := by
  rw [call_k lf n_impl_partsTaken _ (F := F_impl_partsTaken) rfl rfl]
  by_cases h0 : k = 0
  · simp [F_impl_partsTaken, h0]
  · have h0' : (k == 0) = false := beq_eq_false_iff_ne.2 h0
    by_cases h1 : k = 1
    · simp [F_impl_partsTaken, h1]
    · have h1' : (k == 1) = false := beq_eq_false_iff_ne.2 h1
      simp [F_impl_partsTaken, h0, h1, h0', h1']
theorem c_impl_markOk (m k a : Int) (hm : nOk m = true) : call lf n_impl_markOk [.i m, .st [.i k, .i a]] = some (.b (if k = 0 then decide (0 ≤ a ∧ a < m) else decide ((1 ≤ k ∧ k ≤ 3) ∧ a = 0)), []) := by
  rw [call_k lf n_impl_markOk _ (F := F_impl_markOk) rfl rfl]
  have hm' := nOk_iff.1 hm
  have w : wr (m - 1) = m - 1 := wr_id (by omega) (by omega)
  by_cases h0 : k = 0
  · have e : decide (0 ≤ a ∧ a ≤ m - 1) = decide (0 ≤ a ∧ a < m) := decide_eq_decide.2 (by omega)
    simp [F_impl_markOk, h0, w, c_impl_isWithin, e]
  · have h0' : (k == 0) = false := beq_eq_false_iff_ne.2 h0
    by_cases h1 : 1 ≤ k ∧ k ≤ 3
    · have d1 : decide (1 ≤ k ∧ k ≤ 3) = true := decide_eq_true h1
      have e : decide ((1 ≤ k ∧ k ≤ 3) ∧ a = 0) = (a == 0) := by
        by_cases ha : a = 0
        · simp [ha, h1]
        · have ha' : (a == 0) = false := beq_eq_false_iff_ne.2 ha
          rw [ha']; simp [ha]
      simp [F_impl_markOk, h0, h0', c_impl_isWithin, d1, e]
    · have d1 : decide (1 ≤ k ∧ k ≤ 3) = false := decide_eq_false h1
      have e : decide ((1 ≤ k ∧ k ≤ 3) ∧ a = 0) = false := decide_eq_false (fun h => h1 h.1)
      simp [F_impl_markOk, h0, h0', c_impl_isWithin, d1, e]
set_option maxHeartbeats 4000000 in
theorem l_impl_TermOk (m : Int) (hm : nOk m = true) (n : Int) (hb : n < 1099511627776) (es : List DV) (rest : List T) : ∀ k p : Int, 0 ≤ k → k + (rest.map e2).length = n → es.drop k.toNat = rest.map e2 → 0 ≤ p → p ≤ k →
    ex lf F_impl_TermOk_W0 ⟨[(0, .i m), (5, .i p), (18, .sl 0 es), (19, .i n), (20, .i k)], []⟩ =
    match runM m p rest with
    | some q => some (.exit 0, ⟨[(0, .i m), (5, .i q), (18, .sl 0 es), (19, .i n), (20, .i n)], []⟩)
    | none => some (.ret, ⟨[(4, .b false)], []⟩) := by
  induction rest with
  | nil =>
    intro k p h0 hn hd _ _
    rw [w_impl_TermOk_0]
    have hk : k = n := by simpa using hn
    simp [F_impl_TermOk_L0, hk, runM]
  | cons t rest ih =>
    intro k p h0 hn hd hp hpk
    obtain ⟨q1, q2, q3, q4, q5, q6⟩ := stp h0 hn hb hd
    have mk := c_impl_markOk m t.1 t.2 hm
    simp only [e2] at q2
    have nb : k ≤ 1099511627776 := by omega
    have w0 : wr (1 : Int) = 1 := wr_id (by omega) (by omega)
    have w1 : wr (p + 1) = p + 1 := wr_id (by omega) (by omega)
    have w2 : wr p = p := wr_id (by omega) (by omega)
    have w3 : wr (-1 : Int) = -1 := wr_id (by omega) (by omega)
    have w4 : wr (p + -1) = p + -1 := wr_id (by omega) (by omega)
    have w5 : wr (0 : Int) = 0 := wr_id (by omega) (by omega)
    obtain ⟨kd, a⟩ := t
    simp only at mk q2
    rw [w_impl_TermOk_0, runM]
    have iha := ih (k + 1) (p + 1) q4 q5 q6 (by omega) (by omega)
    have ihb := ih (k + 1) p q4 q5 q6 (by omega) (by omega)
    by_cases k0 : kd = 0
    · subst k0
      by_cases ha : 0 ≤ a ∧ a < m
      · have e : mkS m p (0, a) = some (p + 1) := by simp [mkS, ha]
        have d : decide (0 ≤ a ∧ a < m) = true := decide_eq_true ha
        simp only [if_true, d] at mk
        have np : ¬ p < 0 := by omega
        simp [F_impl_TermOk_L0, q1, q2, q3, mk, c_impl_partsTaken, np, w0, w1, iha, e]
      · have e : mkS m p (0, a) = none := by simp only [mkS, if_true, if_neg ha]
        have d : decide (0 ≤ a ∧ a < m) = false := decide_eq_false ha
        simp only [if_true, d] at mk
        simp [F_impl_TermOk_L0, q1, q2, q3, mk, c_impl_partsTaken, e]
    · rw [if_neg k0] at mk
      by_cases k1 : kd = 1
      · subst k1
        by_cases ha : a = 0
        · subst ha
          by_cases hp1 : 1 ≤ p
          · have e : mkS m p (1, 0) = some p := by simp [mkS, hp1]
            have np : ¬ p < 1 := by omega
            simp at mk
            simp [F_impl_TermOk_L0, q1, q2, q3, mk, c_impl_partsTaken, np, w2, w5, ihb, e]
          · have e : mkS m p (1, 0) = none := by simp [mkS, hp1]
            have np : p < 1 := by omega
            simp at mk
            simp [F_impl_TermOk_L0, q1, q2, q3, mk, c_impl_partsTaken, np, e]
        · have e : mkS m p (1, a) = none := by simp [mkS, ha]
          have d : decide ((1 ≤ (1 : Int) ∧ (1 : Int) ≤ 3) ∧ a = 0) = false := decide_eq_false (fun h => ha h.2)
          rw [d] at mk
          simp [F_impl_TermOk_L0, q1, q2, q3, mk, c_impl_partsTaken, e]
      · by_cases k2 : kd = 2 ∨ kd = 3
        · by_cases ha : a = 0
          · subst ha
            have d : decide ((1 ≤ kd ∧ kd ≤ 3) ∧ (0 : Int) = 0) = true := decide_eq_true ⟨by omega, rfl⟩
            rw [d] at mk
            by_cases hp1 : 2 ≤ p
            · have e : mkS m p (kd, 0) = some (p - 1) := by simp [mkS, k0, k1, k2, hp1]
              have np : ¬ p < 2 := by omega
              have ihc := ih (k + 1) (p - 1) q4 q5 q6 (by omega) (by omega)
              simp only [Int.sub_eq_add_neg] at ihc e
              simp [F_impl_TermOk_L0, q1, q2, q3, mk, c_impl_partsTaken, k0, k1, np, w3, w4, ihc, e]
            · have e : mkS m p (kd, 0) = none := by simp [mkS, k0, k1, k2, hp1]
              have np : p < 2 := by omega
              simp [F_impl_TermOk_L0, q1, q2, q3, mk, c_impl_partsTaken, k0, k1, np, e]
          · have e : mkS m p (kd, a) = none := by simp [mkS, k0, k1, k2, ha]
            have d : decide ((1 ≤ kd ∧ kd ≤ 3) ∧ a = 0) = false := decide_eq_false (fun h => ha h.2)
            rw [d] at mk
            simp [F_impl_TermOk_L0, q1, q2, q3, mk, c_impl_partsTaken, k0, k1, e]
        · have e : mkS m p (kd, a) = none := by simp [mkS, k0, k1, k2]
          have d : decide ((1 ≤ kd ∧ kd ≤ 3) ∧ a = 0) = false := decide_eq_false (fun h => by omega)
          rw [d] at mk
          simp [F_impl_TermOk_L0, q1, q2, q3, mk, c_impl_partsTaken, k0, k1, e]
theorem c_impl_TermOk (m : Int) (ts : List T) (hb : (ts.length : Int) < 1099511627776) : call lf n_impl_TermOk [.i m, .sl 0 (ts.map e2)] = some (.b (tmOk m ts), []) := by
  rw [call_k lf n_impl_TermOk _ (F := F_impl_TermOk) rfl rfl]
  cases h1 : nOk m with
  | false => simp [F_impl_TermOk, c_impl_manyOk, h1, tmOk]
  | true =>
    by_cases h2 : 1 ≤ (ts.length : Int) ∧ (ts.length : Int) ≤ 13
    · have d : decide (1 ≤ (ts.length : Int) ∧ (ts.length : Int) ≤ 13) = true := decide_eq_true h2
      have L := l_impl_TermOk m h1 ts.length hb (ts.map e2) ts 0 0 (by omega) (by simp) (by simp) (by omega) (by omega)
      have d2 : decide ((ts.length : Int) ≤ 13) = true := decide_eq_true h2.2
      cases hr : runM m 0 ts with
      | none =>
        rw [hr] at L
        simp [F_impl_TermOk, c_impl_manyOk, c_impl_isWithin, h1, d, L, tmOk, hr]
      | some q =>
        rw [hr] at L
        have e : tmOk m ts = (q == 1) := by
          rw [tmOk, h1, d2, hr]
          cases hq : q == 1 <;> simp_all
        simp [F_impl_TermOk, c_impl_manyOk, c_impl_isWithin, h1, d, L, e]
    · have d : decide (1 ≤ (ts.length : Int) ∧ (ts.length : Int) ≤ 13) = false := decide_eq_false h2
      have e : tmOk m ts = false := by
        by_cases h3 : (ts.length : Int) ≤ 13
        · have : ts = [] := List.eq_nil_of_length_eq_zero (by omega)
          subst this
          simp [tmOk, runM]
        · simp only [tmOk, decide_eq_false h3, Bool.and_false, Bool.false_and]
      simp [F_impl_TermOk, c_impl_manyOk, c_impl_isWithin, h1, d, e]
theorem tmOk_iff {m : Int} {ts : List T} : tmOk m ts = true ↔ (1 ≤ m ∧ m ≤ 5) ∧ (ts.length : Int) ≤ 13 ∧ runM m 0 ts = some 1 := by
  rw [tmOk, Bool.and_eq_true, Bool.and_eq_true, nOk_iff, decide_eq_true_eq, beq_iff_eq, and_assoc]
def letF (a : Int) (t : T) : Int := if t.1 = 0 then orI a (2 ^ t.2.toNat) else a
def lett (ts : List T) : Int := ts.foldl letF 0
def letOf (m : Int) (ts : List T) : Int := if tmOk m ts then lett ts else -1
end
section
inductive Tm where
  | tst (a : Nat)
  | neg (x : Tm)
  | and (x y : Tm)
  | or (x y : Tm)
def flt : Tm → List T
  | .tst a => [(0, (a : Int))]
  | .neg x => flt x ++ [(1, 0)]
  | .and x y => flt x ++ flt y ++ [(2, 0)]
  | .or x y => flt x ++ flt y ++ [(3, 0)]
def tb (m : Int) : Tm → Prop
  | .tst a => (a : Int) < m
  | .neg x => tb m x
  | .and x y => tb m x ∧ tb m y
  | .or x y => tb m x ∧ tb m y
def ev (s : Nat) : Tm → Bool
  | .tst a => s.testBit a
  | .neg x => !ev s x
  | .and x y => ev s x && ev s y
  | .or x y => ev s x || ev s y
/-- how many parts a mark takes -/
def taken (k : Int) : Nat := if k = 0 then 0 else if k = 1 then 1 else 2
def stepG {P : Type} (mk : T → List P → P) (st : List P) (t : T) : List P := st.take (st.length - taken t.1) ++ [mk t (st.drop (st.length - taken t.1))]
def valG {P : Type} (mk : T → List P → P) : Tm → P
  | .tst a => mk (0, (a : Int)) []
  | .neg x => mk (1, 0) [valG mk x]
  | .and x y => mk (2, 0) [valG mk x, valG mk y]
  | .or x y => mk (3, 0) [valG mk x, valG mk y]
theorem stepG_0 {P : Type} (mk : T → List P → P) (st : List P) (a : Int) : stepG mk st (0, a) = st ++ [mk (0, a) []] := by
  simp [stepG, taken]
theorem stepG_1 {P : Type} (mk : T → List P → P) (st : List P) (x : P) (a : Int) : stepG mk (st ++ [x]) (1, a) = st ++ [mk (1, a) [x]] := by
  simp [stepG, taken]
theorem stepG_2 {P : Type} (mk : T → List P → P) (st : List P) (x y : P) (k a : Int) (h : k = 2 ∨ k = 3) : stepG mk (st ++ [x, y]) (k, a) = st ++ [mk (k, a) [x, y]] := by
  have e : taken k = 2 := by unfold taken; rw [if_neg (by omega), if_neg (by omega)]
  simp [stepG, e]
theorem last1 {α : Type} {l : List α} (h : 1 ≤ l.length) : ∃ r x, l = r ++ [x] := by
  have := List.dropLast_concat_getLast (l := l) (by intro e; rw [e] at h; simp at h)
  exact ⟨_, _, this.symm⟩
theorem last2 {α : Type} {l : List α} (h : 2 ≤ l.length) : ∃ r x y, l = r ++ [x, y] := by
  obtain ⟨r, y, rfl⟩ := last1 (by omega : 1 ≤ l.length)
  obtain ⟨r', x, rfl⟩ := last1 (by simp at h; omega : 1 ≤ r.length)
  exact ⟨r', x, y, by simp⟩
theorem forest {m : Int} : ∀ {ts : List T} {p q : Int}, runM m p ts = some q → ∀ F : List Tm, (F.length : Int) = p → (∀ x ∈ F, tb m x) →
    ∃ F' : List Tm, (F'.length : Int) = q ∧ (∀ x ∈ F', tb m x) ∧ F'.flatMap flt = F.flatMap flt ++ ts ∧ ∀ (P : Type) (mk : T → List P → P), ts.foldl (stepG mk) (F.map (valG mk)) = F'.map (valG mk)
  | [], p, q, h, F, hl, hb => by
    simp only [runM, Option.some.injEq] at h
    exact ⟨F, by omega, hb, by simp, fun P mk => rfl⟩
  | t :: ts, p, q, h, F, hl, hb => by
    simp only [runM] at h
    have go : ∀ (G : List Tm), runM m (G.length : Int) ts = some q → (∀ x ∈ G, tb m x) → G.flatMap flt = F.flatMap flt ++ [t] → (∀ (P : Type) (mk : T → List P → P), stepG mk (F.map (valG mk)) t = G.map (valG mk)) →
        ∃ F' : List Tm, (F'.length : Int) = q ∧ (∀ x ∈ F', tb m x) ∧ F'.flatMap flt = F.flatMap flt ++ (t :: ts) ∧ ∀ (P : Type) (mk : T → List P → P), (t :: ts).foldl (stepG mk) (F.map (valG mk)) = F'.map (valG mk) := by
      intro G h1 h2 h3 h4
      obtain ⟨F', q1, q2, q3, q4⟩ := forest h1 G rfl h2
      refine ⟨F', q1, q2, by rw [q3, h3]; simp, fun P mk => ?_⟩
      rw [List.foldl_cons, h4, q4]
    obtain ⟨k, a⟩ := t
    cases hm : mkS m p (k, a) with
    | none => rw [hm] at h; cases h
    | some p1 =>
      rw [hm] at h
      simp only at h
      unfold mkS at hm
      simp only at hm
      split at hm
      · rename_i hk
        subst hk
        split at hm
        · rename_i ha
          injection hm with hm
          obtain ⟨n, rfl⟩ := Int.eq_ofNat_of_zero_le ha.1
          refine go (F ++ [.tst n]) (by rw [show (((F ++ [Tm.tst n]).length : Nat) : Int) = p1 by simp; omega]; exact h) (fun x hx => ?_) (by simp [flt]) (fun P mk => by rw [stepG_0]; simp [valG])
          rcases List.mem_append.1 hx with h1 | h1
          · exact hb x h1
          · simp only [List.mem_singleton] at h1; subst h1; exact ha.2
        · cases hm
      · split at hm
        · rename_i _ hk
          subst hk
          split at hm
          · rename_i ha
            injection hm with hm
            obtain ⟨r, x, rfl⟩ := last1 (l := F) (by omega)
            have ha0 := ha.1
            subst ha0
            refine go (r ++ [.neg x]) (by rw [show (((r ++ [Tm.neg x]).length : Nat) : Int) = p1 by simp at hl ⊢; omega]; exact h) (fun y hy => ?_) (by simp [flt]) (fun P mk => by rw [List.map_append]; simp only [List.map_cons, List.map_nil]; rw [stepG_1]; simp [valG])
            rcases List.mem_append.1 hy with h1 | h1
            · exact hb y (List.mem_append_left _ h1)
            · simp only [List.mem_singleton] at h1; subst h1; exact hb x (by simp)
          · cases hm
        · split at hm
          · rename_i _ _ hk
            split at hm
            · rename_i ha
              injection hm with hm
              obtain ⟨r, x, y, rfl⟩ := last2 (l := F) (by omega)
              have ha0 := ha.1
              subst ha0
              have hx := hb x (by simp)
              have hy := hb y (by simp)
              rcases hk with rfl | rfl
              · refine go (r ++ [.and x y]) (by rw [show (((r ++ [Tm.and x y]).length : Nat) : Int) = p1 by simp at hl ⊢; omega]; exact h) (fun z hz => ?_) (by simp [flt]) (fun P mk => by rw [List.map_append]; simp only [List.map_cons, List.map_nil]; rw [stepG_2 _ _ _ _ _ _ (.inl rfl)]; simp [valG])
                rcases List.mem_append.1 hz with h1 | h1
                · exact hb z (List.mem_append_left _ h1)
                · simp only [List.mem_singleton] at h1; subst h1; exact ⟨hx, hy⟩
              · refine go (r ++ [.or x y]) (by rw [show (((r ++ [Tm.or x y]).length : Nat) : Int) = p1 by simp at hl ⊢; omega]; exact h) (fun z hz => ?_) (by simp [flt]) (fun P mk => by rw [List.map_append]; simp only [List.map_cons, List.map_nil]; rw [stepG_2 _ _ _ _ _ _ (.inr rfl)]; simp [valG])
                rcases List.mem_append.1 hz with h1 | h1
                · exact hb z (List.mem_append_left _ h1)
                · simp only [List.mem_singleton] at h1; subst h1; exact ⟨hx, hy⟩
            · cases hm
          · cases hm
theorem tm_tree {m : Int} {ts : List T} (h : tmOk m ts = true) : ∃ x, tb m x ∧ flt x = ts ∧ ∀ (P : Type) (mk : T → List P → P), ts.foldl (stepG mk) [] = [valG mk x] := by
  obtain ⟨_, _, h3⟩ := tmOk_iff.1 h
  obtain ⟨F, q1, q2, q3, q4⟩ := forest h3 [] rfl (by simp)
  match F, q1 with
  | [x], _ => exact ⟨x, q2 x (by simp), by simpa using q3, fun P mk => by simpa using q4 P mk⟩

def yesW (a : Nat) : BitVec 32 := match a with
  | 0 => 2863311530#32
  | 1 => 3435973836#32
  | 2 => 4042322160#32
  | 3 => 4278255360#32
  | _ => 4294901760#32
def mkW (t : T) (ps : List (BitVec 32)) : BitVec 32 :=
  if t.1 = 0 then yesW t.2.toNat else if t.1 = 1 then ~~~(ps.getD 0 0) else if t.1 = 2 then ps.getD 0 0 &&& ps.getD 1 0 else ps.getD 0 0 ||| ps.getD 1 0
theorem yes_bit : ∀ (a : _root_.Fin 5) (s : _root_.Fin 32), (yesW a.val).getLsbD s.val = s.val.testBit a.val := by decide +kernel
theorem val_bit {m : Int} (hm : m ≤ 5) : ∀ {x : Tm}, tb m x → ∀ {s : Nat}, s < 32 → (valG mkW x).getLsbD s = ev s x
  | .tst a, h, s, hs => by
    have ha : a < 5 := by have : (a : Int) < m := h; omega
    have := yes_bit ⟨a, ha⟩ ⟨s, hs⟩
    simpa [valG, mkW, ev] using this
  | .neg x, h, s, hs => by
    have ih := val_bit hm (x := x) h hs
    have e : valG mkW (.neg x) = ~~~(valG mkW x) := by simp [valG, mkW]
    rw [e, BitVec.getLsbD_not, ih]
    simp [hs, ev]
  | .and x y, h, s, hs => by
    have i1 := val_bit hm (x := x) h.1 hs
    have i2 := val_bit hm (x := y) h.2 hs
    simp [valG, mkW, ev, i1, i2]
  | .or x y, h, s, hs => by
    have i1 := val_bit hm (x := x) h.1 hs
    have i2 := val_bit hm (x := y) h.2 hs
    simp [valG, mkW, ev, i1, i2]
def tsW (ts : List T) : BitVec 32 := (ts.foldl (stepG mkW) []).headD 0
/-- the value of a term in a state -/
def tv (ts : List T) (s : Nat) : Bool := (tsW ts).getLsbD s
theorem tv_tree {m : Int} {ts : List T} (h : tmOk m ts = true) : ∃ x, tb m x ∧ flt x = ts ∧ ts.foldl (stepG mkW) [] = [tsW ts] ∧ ∀ s, s < 32 → tv ts s = ev s x := by
  obtain ⟨h1, _, _⟩ := tmOk_iff.1 h
  obtain ⟨x, b, f, g⟩ := tm_tree h
  have e : tsW ts = valG mkW x := by unfold tsW; rw [g]; rfl
  exact ⟨x, b, f, by rw [g, e], fun s hs => by unfold tv; rw [e]; exact val_bit h1.2 b hs⟩
/-- A term reads no tests but its own. -/
theorem ev_congr {m : Int} {s s' : Nat} (h : ∀ a : Nat, (a : Int) < m → s.testBit a = s'.testBit a) : ∀ {x : Tm}, tb m x → ev s x = ev s' x
  | .tst a, hb => h a hb
  | .neg x, hb => by simp only [ev, ev_congr h (x := x) hb]
  | .and x y, hb => by simp only [ev, ev_congr h (x := x) hb.1, ev_congr h (x := y) hb.2]
  | .or x y, hb => by simp only [ev, ev_congr h (x := x) hb.1, ev_congr h (x := y) hb.2]
end
section
theorem xor_bound {a b : Int} (h1 : 0 ≤ a) (h2 : a < 4611686018427387904) (h3 : 0 ≤ b) (h4 : b < 4611686018427387904) : 0 ≤ xorI a b ∧ xorI a b < 4611686018427387904 := by
  have e : (BitVec.ofInt 64 a ^^^ BitVec.ofInt 64 b).toNat = a.toNat ^^^ b.toNat := by
    simp only [BitVec.toNat_xor, BitVec.toNat_ofInt]
    congr 1 <;> omega
  have k : a.toNat ^^^ b.toNat < 2 ^ 62 := Nat.xor_lt_two_pow (by omega) (by omega)
  unfold xorI
  rw [e, wr_id (by omega) (by omega)]
  omega
def hs (bs : List Nat) (p : Int) : Int := (bs.getD (p.tmod bs.length).toNat 0 : Nat) * 131 + (bs.getD ((p * 7 + 3).tmod bs.length).toNat 0 : Nat) * 1117 + p * 29 + p.tdiv bs.length * 53
def pk (bs : List Nat) (p n : Int) : Int := if bs.length = 0 then 0 else if p < bs.length then ((bs.getD p.toNat 0 : Nat) : Int).tmod n else (xorI (hs bs p) ((hs bs p).tdiv 64)).tmod n
theorem byte_lt {bs : List Nat} (hb : ∀ y ∈ bs, y < 256) (i : Nat) : bs.getD i 0 < 256 := by
  by_cases h : i < bs.length
  · have : bs.getD i 0 = bs[i] := by simp [List.getD, h]
    rw [this]
    exact hb _ (List.getElem_mem h)
  · have : bs.getD i 0 = 0 := by simp [List.getD, List.getElem?_eq_none (by omega : bs.length ≤ i)]
    omega
theorem tdiv_bound {p l : Int} (h0 : 0 ≤ p) (hl : 1 ≤ l) : 0 ≤ p.tdiv l ∧ p.tdiv l ≤ p := by
  rw [Int.tdiv_eq_ediv_of_nonneg h0]
  exact ⟨Int.ediv_nonneg h0 (by omega), Int.ediv_le_self _ h0⟩
theorem tmod_bound {p l : Int} (h0 : 0 ≤ p) (hl : 1 ≤ l) : 0 ≤ p.tmod l ∧ p.tmod l < l := by
  rw [Int.tmod_eq_emod_of_nonneg h0]
  exact ⟨Int.emod_nonneg _ (by omega), Int.emod_lt_of_pos _ (by omega)⟩
theorem hs_bound {bs : List Nat} (hb : ∀ y ∈ bs, y < 256) {p : Int} (h0 : 0 ≤ p) (h1 : p ≤ 1000000) (hl : 1 ≤ bs.length) : 0 ≤ hs bs p ∧ hs bs p < 1000000000 := by
  have a := byte_lt hb (p.tmod bs.length).toNat
  have b := byte_lt hb ((p * 7 + 3).tmod bs.length).toNat
  have c := tdiv_bound (p := p) (l := bs.length) h0 (by omega)
  unfold hs
  omega
theorem pk_bound {bs : List Nat} (hb : ∀ y ∈ bs, y < 256) {p n : Int} (h0 : 0 ≤ p) (h1 : p ≤ 1000000) (hn : 1 ≤ n) : 0 ≤ pk bs p n ∧ pk bs p n < n := by
  unfold pk
  split
  · omega
  · split
    · exact tmod_bound (by omega) hn
    · have a := hs_bound hb h0 h1 (by omega)
      have b := tdiv_bound (p := hs bs p) (l := 64) a.1 (by omega)
      have c := xor_bound a.1 (by omega) b.1 (by omega)
      exact tmod_bound c.1 hn
theorem atI_y {bs : List Nat} {i : Int} (h0 : 0 ≤ i) (h1 : i < bs.length) : atI (bs.map .y) i = some (.y (bs.getD i.toNat 0)) := by
  have : i.toNat < bs.length := by omega
  simp [atI, h0, List.getD, this]

theorem c_pick {bs : List Nat} (hb : ∀ y ∈ bs, y < 256) (hl : bs.length ≤ 2000) {p n : Int} (h0 : 0 ≤ p) (h1 : p < 1000000) (hn : 1 ≤ n) :
    call lf n_spec_l20Rd_pick [.ref (.st [.sl 0 (bs.map .y), .i p]), .i n] = some (.i (pk bs p n), [.st [.sl 0 (bs.map .y), .i (p + 1)]]) := by
  rw [call_k lf n_spec_l20Rd_pick _ (F := F_spec_l20Rd_pick) rfl rfl]
  have w1 : wr (p + 1) = p + 1 := wr_id (by omega) (by omega)
  have w2 : wr p = p := wr_id (by omega) (by omega)
  have n1 : ¬ n < 1 := by omega
  have n2 : ¬ n = 0 := by omega
  by_cases e : bs.length = 0
  · have e1 : ((bs.length : Int) == 0) = true := by rw [e]; rfl
    simp [F_spec_l20Rd_pick, w1, n1, e1, pk, e]
  · have e1 : ((bs.length : Int) == 0) = false := beq_eq_false_iff_ne.2 (by omega)
    by_cases f : p < bs.length
    · have a := atI_y (bs := bs) h0 f
      simp [F_spec_l20Rd_pick, w1, w2, n1, n2, e1, pk, e, f, a]
    · have lpos : (1 : Int) ≤ bs.length := by omega
      have l0 : ¬ bs = [] := fun h => e (by rw [h]; rfl)
      have t1 := tmod_bound h0 lpos
      have t2 := tmod_bound (p := p * 7 + 3) (by omega) lpos
      have a1 := atI_y t1.1 t1.2
      have a2 := atI_y t2.1 t2.2
      have b1 := byte_lt hb (p.tmod bs.length).toNat
      have b2 := byte_lt hb ((p * 7 + 3).tmod bs.length).toNat
      have d := tdiv_bound h0 lpos
      have H := hs_bound hb h0 (by omega) (by omega : 1 ≤ bs.length)
      have hd : hs bs p = (bs.getD (p.tmod bs.length).toNat 0 : Nat) * 131 + (bs.getD ((p * 7 + 3).tmod bs.length).toNat 0 : Nat) * 1117 + p * 29 + p.tdiv bs.length * 53 := rfl
      have hp : pk bs p n = (xorI (hs bs p) ((hs bs p).tdiv 64)).tmod n := by unfold pk; rw [if_neg e, if_neg f]
      generalize bs.getD (p.tmod bs.length).toNat 0 = u at *
      generalize bs.getD ((p * 7 + 3).tmod bs.length).toNat 0 = v at *
      have v1 : wr (p * 7) = p * 7 := wr_id (by omega) (by omega)
      have v2 : wr (p * 7 + 3) = p * 7 + 3 := wr_id (by omega) (by omega)
      have v3 : wr ((u : Int) * 131) = u * 131 := wr_id (by omega) (by omega)
      have v4 : wr ((v : Int) * 1117) = v * 1117 := wr_id (by omega) (by omega)
      have v5 : wr ((u : Int) * 131 + v * 1117) = u * 131 + v * 1117 := wr_id (by omega) (by omega)
      have v6 : wr (p * 29) = p * 29 := wr_id (by omega) (by omega)
      have v7 : wr ((u : Int) * 131 + v * 1117 + p * 29) = u * 131 + v * 1117 + p * 29 := wr_id (by omega) (by omega)
      have v8 : wr (p.tdiv bs.length) = p.tdiv bs.length := wr_id (by omega) (by omega)
      have v9 : wr (p.tdiv bs.length * 53) = p.tdiv bs.length * 53 := wr_id (by omega) (by omega)
      have va : wr ((u : Int) * 131 + v * 1117 + p * 29 + p.tdiv bs.length * 53) = hs bs p := by rw [hd]; exact wr_id (by omega) (by omega)
      have b := tdiv_bound (p := hs bs p) (l := 64) H.1 (by omega)
      have vb : wr ((hs bs p).tdiv 64) = (hs bs p).tdiv 64 := wr_id (by omega) (by omega)
      simp [F_spec_l20Rd_pick, w1, w2, n1, n2, e1, f, l0, a1, a2, v1, v2, v3, v4, v5, v6, v7, v8, v9, va, vb, hp]
theorem c_odd {bs : List Nat} (hb : ∀ y ∈ bs, y < 256) (hl : bs.length ≤ 2000) {p n : Int} (h0 : 0 ≤ p) (h1 : p < 1000000) (hn : 1 ≤ n) (hn2 : n ≤ 1000000) :
    call lf n_spec_l20Rd_odd [.ref (.st [.sl 0 (bs.map .y), .i p]), .i n] = some (.b (pk bs p n == n - 1), [.st [.sl 0 (bs.map .y), .i (p + 1)]]) := by
  rw [call_k lf n_spec_l20Rd_odd _ (F := F_spec_l20Rd_odd) rfl rfl]
  have n1 : 0 < n := by omega
  have w : wr (n - 1) = n - 1 := wr_id (by omega) (by omega)
  simp [F_spec_l20Rd_odd, n1, w, c_pick hb hl h0 h1 hn]
theorem c_open {bs : List Nat} (hl : bs.length ≤ 1048576) : call lf n_spec_l20Open [.sl 0 (bs.map .y)] = some (.ref (.st [.sl 0 ((bs.take 2000).map .y), .i 0]), []) := by
  rw [call_k lf n_spec_l20Open _ (F := F_spec_l20Open) rfl rfl]
  by_cases h : 2000 < (bs.length : Int)
  · have h2 : (2000 : Int) ≤ bs.length := by omega
    have h3 : ∀ x ∈ bs, (DV.y x).cells.length = 1 := fun _ _ => rfl
    simp [F_spec_l20Open, h, h2, List.map_take]
  · have h2 : bs.take 2000 = bs := List.take_of_length_le (by omega)
    simp [F_spec_l20Open, h, h2]

theorem l_l20Tests {bs : List Nat} (hb : ∀ y ∈ bs, y < 256) (hl : bs.length ≤ 2000) (nn : Int) (j : Nat) : ∀ (p : Int) (ts : List T), 0 ≤ p → p + 2 * j < 900000 → ts.length + j ≤ 100 →
    ∃ us : List T, us.length = ts.length + j ∧
    ex lf F_spec_l20Tests_W0 ⟨[(0, .oad 23 1 0 0), (1, .i nn), (5, .own 3600 ts.length 0 ts.length), (6, .i j)], [(23, [.st [.sl 0 (bs.map .y), .i p]]), (3600, ts.map e2)]⟩ =
      some (.exit 0, ⟨[(0, .oad 23 1 0 0), (1, .i nn), (5, .own 3600 us.length 0 us.length), (6, .i 0)], [(23, [.st [.sl 0 (bs.map .y), .i (p + 2 * j)]]), (3600, us.map e2)]⟩) := by
  induction j with
  | zero =>
    intro p ts h0 h1 h2
    refine ⟨ts, by omega, ?_⟩
    rw [w_spec_l20Tests_0]
    simp [F_spec_l20Tests_L0]
  | succ j ih =>
    intro p ts h0 h1 h2
    have a1 := pk_bound hb h0 (by omega : p ≤ 1000000) (by omega : (1 : Int) ≤ 9)
    have a2 := pk_bound hb (by omega : 0 ≤ p + 1) (by omega : p + 1 ≤ 1000000) (by omega : (1 : Int) ≤ 5)
    have k1 := c_pick hb hl h0 (by omega : p < 1000000) (by omega : (1 : Int) ≤ 9)
    have k2 := c_pick hb hl (by omega : 0 ≤ p + 1) (by omega : p + 1 < 1000000) (by omega : (1 : Int) ≤ 5)
    have w1 : wr (1 + pk bs p 9) = 1 + pk bs p 9 := wr_id (by omega) (by omega)
    have w2 : wr (1 + pk bs (p + 1) 5) = 1 + pk bs (p + 1) 5 := wr_id (by omega) (by omega)
    have w3 : wr (j : Int) = j := wr_id (by omega) (by omega)
    obtain ⟨us, u1, u2⟩ := ih (p + 1 + 1) (ts ++ [(1 + pk bs p 9, 1 + pk bs (p + 1) 5)]) (by omega) (by omega) (by simp; omega)
    refine ⟨us, by rw [u1]; simp; omega, ?_⟩
    rw [w_spec_l20Tests_0]
    have c1 : (0 : Int) < (j : Int) + 1 := by omega
    have c2 : ts.length + 1 ≤ bound := by unfold bound; omega
    simp [e2, Int.natCast_add] at u2
    rw [show p + 2 * ((j + 1 : Nat) : Int) = p + 1 + 1 + 2 * j by omega]
    simp [F_spec_l20Tests_L0, c1, c2, k1, k2, w1, w2, w3, e2, u2]
theorem c_l20Tests {bs : List Nat} (hb : ∀ y ∈ bs, y < 256) (hl : bs.length ≤ 2000) {p n : Int} (h0 : 0 ≤ p) (h1 : p < 800000) (hn : 1 ≤ n) (hn2 : n ≤ 1000000) :
    ∃ (us : List T) (p' : Int), us.length ≤ 5 ∧ p ≤ p' ∧ p' ≤ p + 20 ∧ call lf n_spec_l20Tests [.ref (.st [.sl 0 (bs.map .y), .i p]), .i n] = some (.fr 2 (us.map e2), [.st [.sl 0 (bs.map .y), .i p']]) := by
  have a1 := pk_bound hb h0 (by omega : p ≤ 1000000) (by omega : (1 : Int) ≤ 5)
  have k1 := c_pick hb hl h0 (by omega : p < 1000000) (by omega : (1 : Int) ≤ 5)
  obtain ⟨j, hj⟩ : ∃ j : Nat, 1 + pk bs p 5 = j := ⟨(1 + pk bs p 5).toNat, by omega⟩
  have w1 : wr (j : Int) = j := wr_id (by omega) (by omega)
  obtain ⟨us, u1, u2⟩ := l_l20Tests hb hl n j (p + 1) [] (by omega) (by omega) (by simp; omega)
  simp at u1 u2
  have q0 : 0 ≤ p + 1 + 2 * (j : Int) := by omega
  have k2 := c_odd hb hl q0 (by omega) hn hn2
  generalize hq : p + 1 + 2 * (j : Int) = q at *
  cases ho : (pk bs q n == n - 1) with
  | false =>
    rw [ho] at k2
    refine ⟨us, q + 1, by omega, by omega, by omega, ?_⟩
    rw [call_k lf n_spec_l20Tests _ (F := F_spec_l20Tests) rfl rfl]
    simp [F_spec_l20Tests, k1, hj, w1, u2, k2]
  | true =>
    rw [ho] at k2
    have k3 := c_pick hb hl (by omega : 0 ≤ q + 1) (by omega : q + 1 < 1000000) (by omega : (1 : Int) ≤ 3)
    have a3 := pk_bound hb (by omega : 0 ≤ q + 1) (by omega : q + 1 ≤ 1000000) (by omega : (1 : Int) ≤ 3)
    have k4 := c_pick hb hl (by omega : 0 ≤ q + 1 + 1) (by omega : q + 1 + 1 < 1000000) (by omega : (1 : Int) ≤ 2)
    have a4 := pk_bound hb (by omega : 0 ≤ q + 1 + 1) (by omega : q + 1 + 1 ≤ 1000000) (by omega : (1 : Int) ≤ 2)
    match us, u1 with
    | [], u1 => simp at u1; omega
    | t :: r, u1 =>
      simp [e2, Int.natCast_add] at u2
      generalize pk bs (q + 1) 3 = x3 at *
      generalize pk bs (q + 1 + 1) 2 = x4 at *
      have c3 : x3 = 0 ∨ x3 = 1 ∨ x3 = 2 := by omega
      have c4 : x4 = 0 ∨ x4 = 1 := by omega
      have e0 : ∀ (a b : Int), DV.st [.i a, .i b] = e2 (a, b) := fun _ _ => rfl
      rcases c3 with rfl | rfl | rfl
      · refine ⟨[], q + 1 + 1, by simp, by omega, by omega, ?_⟩
        rw [call_k lf n_spec_l20Tests _ (F := F_spec_l20Tests) rfl rfl]
        simp [F_spec_l20Tests, k1, hj, w1, u2, k2, k3]
      · rcases c4 with rfl | rfl
        · refine ⟨(0, t.2) :: r, q + 1 + 1 + 1, by simp at u1 ⊢; omega, by omega, by omega, ?_⟩
          rw [call_k lf n_spec_l20Tests _ (F := F_spec_l20Tests) rfl rfl]
          simp [F_spec_l20Tests, k1, hj, w1, u2, k2, k3, k4, e2]
        · refine ⟨(10, t.2) :: r, q + 1 + 1 + 1, by simp at u1 ⊢; omega, by omega, by omega, ?_⟩
          rw [call_k lf n_spec_l20Tests _ (F := F_spec_l20Tests) rfl rfl]
          simp [F_spec_l20Tests, k1, hj, w1, u2, k2, k3, k4, e2]
      · rcases c4 with rfl | rfl
        · refine ⟨(t.1, 0) :: r, q + 1 + 1 + 1, by simp at u1 ⊢; omega, by omega, by omega, ?_⟩
          rw [call_k lf n_spec_l20Tests _ (F := F_spec_l20Tests) rfl rfl]
          simp [F_spec_l20Tests, k1, hj, w1, u2, k2, k3, k4, e2]
        · refine ⟨(t.1, 6) :: r, q + 1 + 1 + 1, by simp at u1 ⊢; omega, by omega, by omega, ?_⟩
          rw [call_k lf n_spec_l20Tests _ (F := F_spec_l20Tests) rfl rfl]
          simp [F_spec_l20Tests, k1, hj, w1, u2, k2, k3, k4, e2]

theorem take_b {bs : List Nat} (hb : ∀ y ∈ bs, y < 256) : (∀ y ∈ bs.take 2000, y < 256) ∧ (bs.take 2000).length ≤ 2000 :=
  ⟨fun y h => hb y (List.mem_of_mem_take h), by simp; omega⟩
end
section
theorem cells_st (cs : List DV) : (DV.st cs).cells = cs := rfl
theorem cells_sl (p : Nat) (es : List DV) : (DV.sl p es).cells = [DV.sl p es] := rfl
theorem cells_i (n : Int) : (DV.i n).cells = [DV.i n] := rfl
theorem cells_y (n : Nat) : (DV.y n).cells = [DV.y n] := rfl
theorem cells_b (n : Bool) : (DV.b n).cells = [DV.b n] := rfl
theorem cells_s (n : List UInt8) : (DV.s n).cells = [DV.s n] := rfl
attribute [-simp] DV.cells
attribute [local simp] cells_st cells_sl cells_i cells_y cells_b cells_s
def row (t : List T) : DV := .sl 1 (t.map e2)
theorem flat_set (m : T) : ∀ {ps : List (List T)} {A : Nat} {t : List T}, ps[A]? = some t → (ps.set A (t ++ [m])).flatten.length = ps.flatten.length + 1
  | [], _, _, h => by simp at h
  | x :: ps, 0, t, h => by simp at h; subst h; simp; omega
  | x :: ps, A + 1, t, h => by
    simp only [List.getElem?_cons_succ] at h
    have := flat_set m h
    simp at this ⊢
    omega
theorem flat_len : ∀ {ps : List (List T)} {A : Nat} {t : List T}, ps[A]? = some t → t.length ≤ ps.flatten.length
  | [], _, _, h => by simp at h
  | x :: ps, 0, t, h => by simp at h; subst h; simp
  | x :: ps, A + 1, t, h => by
    simp only [List.getElem?_cons_succ] at h
    have := flat_len h
    simp only [List.flatten_cons, List.length_append]; omega
end
section
attribute [-simp] DV.cells
attribute [local simp] cells_st cells_sl cells_i cells_y cells_b cells_s
theorem cells_w (x : BitVec 32) : (DV.w x).cells = [DV.w x] := rfl
attribute [local simp] cells_w
theorem c_impl_statesOfPart (k a : Int) (ps : List (BitVec 32)) (h : (k = 0 ∧ 0 ≤ a ∧ a < 5) ∨ (k = 1 ∧ 1 ≤ ps.length) ∨ ((k = 2 ∨ k = 3) ∧ 2 ≤ ps.length)) :
    call lf n_impl_statesOfPart [.st [.i k, .i a], .sl 0 (ps.map .w)] = some (.w (mkW (k, a) ps), []) := by
  rw [call_k lf n_impl_statesOfPart _ (F := F_impl_statesOfPart) rfl rfl]
  rcases h with ⟨rfl, h0, h5⟩ | ⟨rfl, h1⟩ | ⟨hk, h2⟩
  · have c5 : a = 0 ∨ a = 1 ∨ a = 2 ∨ a = 3 ∨ a = 4 := by omega
    rcases c5 with rfl | rfl | rfl | rfl | rfl <;> simp [F_impl_statesOfPart, gEnv_2, mkW, yesW]
  · obtain ⟨x, xs, rfl⟩ : ∃ x xs, ps = x :: xs := by cases ps with | nil => simp at h1 | cons x xs => exact ⟨x, xs, rfl⟩
    simp [F_impl_statesOfPart, gEnv_2, mkW, atI]
  · obtain ⟨x, y, xs, rfl⟩ : ∃ x y xs, ps = x :: y :: xs := by
      match ps, h2 with
      | x :: y :: xs, _ => exact ⟨x, y, xs, rfl⟩
    rcases hk with rfl | rfl <;> simp [F_impl_statesOfPart, gEnv_2, mkW, atI]
end
section
attribute [-simp] DV.cells
attribute [local simp] cells_st cells_sl cells_i cells_y cells_b cells_s cells_w
/-- the stack lies in front of what was there -/
def stF (n k : Int) (es : List DV) (N : Nat) (g : List DV) (st : List (BitVec 32)) : LS :=
  ⟨[(1, .fn n_impl_statesOfPart []), (5, .own 2568 N 0 st.length), (10, .sl 0 es), (11, .i n), (12, .i k)], [(2568, st.map .w ++ g)]⟩
set_option maxHeartbeats 4000000 in
theorem l_fold0 (n k : Int) (es : List DV) (N : Nat) (g : List DV) (st : List (BitVec 32)) (hN : N = st.length + g.length) (hl : st.length ≤ 1000) (a : Int) (h0 : 0 ≤ a) (h5 : a < 5) (hk : k < n) (hat : atI es k = some (.st [.i 0, .i a])) (hw : wr (k + 1) = k + 1) :
    ∃ N' g', N' = (stepG mkW st (0, a)).length + g'.length ∧ ex lf F_impl_foldTerm_uint32_L0 (stF n k es N g st) = some (.normal, stF n (k + 1) es N' g' (stepG mkW st (0, a))) := by
  have C := c_impl_statesOfPart 0 a [] (.inl ⟨rfl, h0, h5⟩)
  have P := c_impl_partsTaken 0
  have w1 : wr (st.length : Int) = st.length := wr_id (by omega) (by omega)
  have b1 : st.length + 1 ≤ bound := by unfold bound; omega
  rw [stepG_0]
  simp at C P
  cases g with
  | nil =>
    refine ⟨st.length + 1, [], by simp, ?_⟩
    have hN' : N = st.length := by simpa using hN
    subst hN'
    unfold stF
    simp [F_impl_foldTerm_uint32_L0, hk, hat, hw, C, P, w1, b1]
  | cons y g =>
    refine ⟨N, g, by simp at hN ⊢; omega, ?_⟩
    have hL : (st.map DV.w ++ y :: g).length = N := by rw [hN]; simp
    have t1 : List.take st.length (st.map DV.w ++ y :: g) = st.map .w := by rw [List.take_append_of_le_length (by simp), List.take_of_length_le (by simp)]
    have t2 : List.drop (st.length + 1) (st.map DV.w ++ y :: g) = g := by rw [List.drop_append]; simp
    have n1 : st.length < N := by rw [hN]; simp
    have n2 : st.length + 1 ≤ N := by omega
    have n3 : ¬ st.length = N := by omega
    have n4 : st.length ≤ N := by omega
    have t4 : List.drop st.length (st.map DV.w) = [] := List.drop_of_length_le (by simp)
    unfold stF
    generalize st.map DV.w ++ y :: g = L at *
    simp [F_impl_foldTerm_uint32_L0, hk, hat, hw, C, P, w1, b1, hL, t1, t2, t4, n1, n2, n3, n4]
set_option maxHeartbeats 4000000 in
theorem l_fold1 (n k : Int) (es : List DV) (N : Nat) (g : List DV) (st : List (BitVec 32)) (x : BitVec 32) (hN : N = (st ++ [x]).length + g.length) (hl : st.length ≤ 1000) (a : Int) (hk : k < n) (hat : atI es k = some (.st [.i 1, .i a])) (hw : wr (k + 1) = k + 1) :
    ∃ N' g', N' = (stepG mkW (st ++ [x]) (1, a)).length + g'.length ∧ ex lf F_impl_foldTerm_uint32_L0 (stF n k es N g (st ++ [x])) = some (.normal, stF n (k + 1) es N' g' (stepG mkW (st ++ [x]) (1, a))) := by
  have C := c_impl_statesOfPart 1 a [x] (.inr (.inl ⟨rfl, by simp⟩))
  have P := c_impl_partsTaken 1
  have w1 : wr (st.length : Int) = st.length := wr_id (by omega) (by omega)
  have b1 : st.length + 1 ≤ bound := by unfold bound; omega
  rw [stepG_1]
  simp at C P hN
  refine ⟨N, g, by simp; omega, ?_⟩
  have hL : ((st ++ [x]).map DV.w ++ g).length = N := by rw [hN]; simp; omega
  have t1 : List.take st.length ((st ++ [x]).map DV.w ++ g) = st.map .w := by rw [List.map_append, List.append_assoc, List.take_append_of_le_length (by simp), List.take_of_length_le (by simp)]
  have t2 : List.drop (st.length + 1) ((st ++ [x]).map DV.w ++ g) = g := by rw [List.drop_append]; simp
  have t3 : List.drop st.length (List.take (st.length + 1) ((st ++ [x]).map DV.w ++ g)) = [.w x] := by
    rw [List.take_append_of_le_length (by simp), List.take_of_length_le (by simp), List.map_append, List.drop_append]; simp
  have n1 : st.length < N := by omega
  have n2 : st.length + 1 ≤ N := by omega
  have n3 : ¬ st.length = N := by omega
  have n4 : st.length ≤ N := by omega
  have l1 : (st.length : Int) ≤ st.length + 1 := by omega
  unfold stF
  generalize (st ++ [x]).map DV.w ++ g = L at *
  simp [F_impl_foldTerm_uint32_L0, hk, hat, hw, C, P, w1, b1, hL, t1, t2, t3, n1, n2, n3, n4, l1]
set_option maxHeartbeats 4000000 in
theorem l_fold2 (n k : Int) (es : List DV) (N : Nat) (g : List DV) (st : List (BitVec 32)) (x y : BitVec 32) (hN : N = (st ++ [x, y]).length + g.length) (hl : st.length ≤ 1000) (c a : Int) (hc : c = 2 ∨ c = 3) (hk : k < n) (hat : atI es k = some (.st [.i c, .i a])) (hw : wr (k + 1) = k + 1) :
    ∃ N' g', N' = (stepG mkW (st ++ [x, y]) (c, a)).length + g'.length ∧ ex lf F_impl_foldTerm_uint32_L0 (stF n k es N g (st ++ [x, y])) = some (.normal, stF n (k + 1) es N' g' (stepG mkW (st ++ [x, y]) (c, a))) := by
  have C := c_impl_statesOfPart c a [x, y] (.inr (.inr ⟨hc, by simp⟩))
  have P := c_impl_partsTaken c
  rw [if_neg (by omega), if_neg (by omega)] at P
  have w1 : wr (st.length : Int) = st.length := wr_id (by omega) (by omega)
  have b1 : st.length + 1 ≤ bound := by unfold bound; omega
  rw [stepG_2 _ _ _ _ _ _ hc]
  simp at C hN
  refine ⟨N, .w y :: g, by simp; omega, ?_⟩
  have hL : ((st ++ [x, y]).map DV.w ++ g).length = N := by rw [hN]; simp; omega
  have t1 : List.take st.length ((st ++ [x, y]).map DV.w ++ g) = st.map .w := by rw [List.map_append, List.append_assoc, List.take_append_of_le_length (by simp), List.take_of_length_le (by simp)]
  have t2 : List.drop (st.length + 1) ((st ++ [x, y]).map DV.w ++ g) = .w y :: g := by
    rw [List.map_append, List.append_assoc, List.drop_append]; simp
  have t3 : List.drop st.length (List.take (st.length + 2) ((st ++ [x, y]).map DV.w ++ g)) = [.w x, .w y] := by
    rw [List.take_append_of_le_length (by simp), List.take_of_length_le (by simp), List.map_append, List.drop_append]; simp
  have n1 : st.length < N := by omega
  have n2 : st.length + 1 ≤ N := by omega
  have n3 : ¬ st.length = N := by omega
  have n4 : st.length ≤ N := by omega
  have n5 : st.length + 2 ≤ N := by omega
  have l1 : (st.length : Int) ≤ st.length + 2 := by omega
  have tn : ((st.length : Int) + 2).toNat = st.length + 2 := by omega
  unfold stF
  generalize (st ++ [x, y]).map DV.w ++ g = L at *
  simp [F_impl_foldTerm_uint32_L0, hk, hat, hw, C, P, w1, b1, hL, t1, t2, t3, n1, n2, n3, n4, n5, l1, tn]
theorem l_fold (m n : Int) (hm : m ≤ 5) (hb : n < 1000000) (es : List DV) : ∀ (rest : List T) (k p q : Int) (st : List (BitVec 32)) (N : Nat) (g : List DV), N = st.length + g.length → 0 ≤ k → k + rest.length = n → es.drop k.toNat = rest.map e2 → (st.length : Int) = p → runM m p rest = some q → st.length + rest.length ≤ 1000 →
    ∃ N' g', N' = (rest.foldl (stepG mkW) st).length + g'.length ∧ ex lf F_impl_foldTerm_uint32_W0 (stF n k es N g st) = some (.exit 0, stF n n es N' g' (rest.foldl (stepG mkW) st))
  | [], k, p, q, st, N, g, hN, h0, hn, hd, hp, hr, hl => by
    refine ⟨N, g, hN, ?_⟩
    rw [w_impl_foldTerm_uint32_0]
    have hk : k = n := by simpa using hn
    subst hk
    unfold stF
    simp [F_impl_foldTerm_uint32_L0]
  | t :: rest, k, p, q, st, N, g, hN, h0, hn, hd, hp, hr, hl => by
    obtain ⟨s1, s2, s3, s4, s5, s6⟩ := stp (es := es) (xs := rest.map e2) (x := e2 t) (k := k) (n := n) h0 (by simpa using hn) (by omega) (by simpa using hd)
    simp only [List.length_cons] at hl
    have hmk := hr
    simp only [runM] at hr
    cases hm' : mkS m p t with
    | none => rw [hm'] at hr; cases hr
    | some p1 =>
      rw [hm'] at hr
      simp only at hr
      obtain ⟨c, a⟩ := t
      simp only [e2] at s2
      have go : (∃ N1 g1, N1 = (stepG mkW st (c, a)).length + g1.length ∧ ex lf F_impl_foldTerm_uint32_L0 (stF n k es N g st) = some (.normal, stF n (k + 1) es N1 g1 (stepG mkW st (c, a)))) → ((stepG mkW st (c, a)).length : Int) = p1 → (stepG mkW st (c, a)).length ≤ st.length + 1 →
          ∃ N' g', N' = (((c, a) :: rest).foldl (stepG mkW) st).length + g'.length ∧ ex lf F_impl_foldTerm_uint32_W0 (stF n k es N g st) = some (.exit 0, stF n n es N' g' (((c, a) :: rest).foldl (stepG mkW) st)) := by
        rintro ⟨N1, g1, hN1, h1⟩ h2 h3
        obtain ⟨N', g', q1, q2⟩ := l_fold m n hm hb es rest (k + 1) p1 q (stepG mkW st (c, a)) N1 g1 hN1 s4 (by simpa using s5) s6 h2 hr (by omega)
        refine ⟨N', g', q1, ?_⟩
        rw [w_impl_foldTerm_uint32_0, h1]
        exact q2
      unfold mkS at hm'
      simp only at hm'
      split at hm'
      · rename_i hc
        subst hc
        split at hm'
        · rename_i ha
          injection hm' with hm'
          exact go (l_fold0 n k es N g st hN (by omega) a ha.1 (by omega) s1 s2 s3) (by rw [stepG_0]; simp; omega) (by rw [stepG_0]; simp)
        · cases hm'
      · split at hm'
        · rename_i _ hc
          subst hc
          split at hm'
          · rename_i ha
            injection hm' with hm'
            obtain ⟨r, x, rfl⟩ := last1 (l := st) (by omega)
            have hl' := hl
            simp only [List.length_append, List.length_singleton] at hl hp
            exact go (l_fold1 n k es N g r x hN (by omega) a s1 s2 s3) (by rw [stepG_1]; simp; omega) (by rw [stepG_1]; simp)
          · cases hm'
        · split at hm'
          · rename_i _ _ hc
            split at hm'
            · rename_i ha
              injection hm' with hm'
              obtain ⟨r, x, y, rfl⟩ := last2 (l := st) (by omega)
              simp only [List.length_append, List.length_cons, List.length_nil] at hl hp
              exact go (l_fold2 n k es N g r x y hN (by omega) c a hc s1 s2 s3) (by rw [stepG_2 _ _ _ _ _ _ hc]; simp; omega) (by rw [stepG_2 _ _ _ _ _ _ hc]; simp)
            · cases hm'
          · cases hm'
theorem c_impl_trueStates {m : Int} {ts : List T} (h : tmOk m ts = true) : call lf n_impl_trueStates [.sl 0 (ts.map e2)] = some (.w (tsW ts), []) := by
  obtain ⟨h1, h2, h3⟩ := tmOk_iff.1 h
  obtain ⟨x, _, _, hf, _⟩ := tv_tree h
  obtain ⟨N', g', hN', L⟩ := l_fold m ts.length h1.2 (by omega) (ts.map e2) ts 0 0 1 [] 0 [] rfl (Int.le_refl _) (by simp) (by simp) rfl h3 (by simp; omega)
  rw [hf] at L hN'
  have C : call lf n_impl_foldTerm_uint32 [.sl 0 (ts.map e2), .fn n_impl_statesOfPart []] = some (.w (tsW ts), []) := by
    rw [call_k lf n_impl_foldTerm_uint32 _ (F := F_impl_foldTerm_uint32) rfl rfl]
    unfold stF at L
    simp at L hN'
    have hL : g'.length + 1 = N' := by omega
    have n1 : 1 ≤ N' := by omega
    simp [F_impl_foldTerm_uint32, L, hL, n1]
  rw [call_k lf n_impl_trueStates _ (F := F_impl_trueStates) rfl rfl]
  simp [F_impl_trueStates, C]
end
section
attribute [-simp] DV.cells
attribute [local simp] cells_st cells_sl cells_i cells_y cells_b cells_s cells_w
attribute [-simp] sliceD
def bI (b : Bool) : Int := if b then 1 else 0
end
section
attribute [-simp] DV.cells sliceD
attribute [local simp] cells_st cells_sl cells_i cells_y cells_b cells_s cells_w
def tabN (f : Nat → Bool) : Nat → Nat
  | 0 => 0
  | k + 1 => tabN f k ||| (if f k then 2 ^ k else 0)
theorem tabN_lt (f : Nat → Bool) : ∀ k, tabN f k < 2 ^ k
  | 0 => by simp [tabN]
  | k + 1 => by
    simp only [tabN]
    have h := tabN_lt f k
    refine Nat.or_lt_two_pow ?_ ?_
    · rw [Nat.pow_succ]; omega
    · split
      · rw [Nat.pow_succ]; have := Nat.pow_pos (n := k) (show 0 < 2 by omega); omega
      · exact Nat.pow_pos (by omega)
theorem tabN_bit (f : Nat → Bool) (s : Nat) : ∀ k, (tabN f k).testBit s = (decide (s < k) && f s)
  | 0 => by simp [tabN]
  | k + 1 => by
    simp only [tabN, Nat.testBit_or, tabN_bit f s k]
    by_cases h : s = k
    · subst h
      cases f s <;> simp
    · have e : (if f k then 2 ^ k else 0).testBit s = false := by
        split
        · rw [Nat.testBit_two_pow]; simp; omega
        · simp
      rw [e]
      by_cases h1 : s < k
      · simp [h1, show s < k + 1 by omega]
      · simp [h1, show ¬ s < k + 1 by omega]
theorem orI_nat {a b : Nat} (ha : a < 2 ^ 62) (hb : b < 2 ^ 62) : orI (a : Int) (b : Int) = ((a ||| b : Nat) : Int) := by
  have hab : a ||| b < 2 ^ 62 := Nat.or_lt_two_pow ha hb
  unfold orI
  have e : (BitVec.ofInt 64 (a : Int) ||| BitVec.ofInt 64 (b : Int)).toNat = a ||| b := by
    rw [BitVec.toNat_or, BitVec.ofInt_natCast, BitVec.ofInt_natCast, BitVec.toNat_ofNat, BitVec.toNat_ofNat, Nat.mod_eq_of_lt (by omega), Nat.mod_eq_of_lt (by omega)]
  rw [e]
  exact wr_id (by omega) (by omega)
theorem pow5 {m : Int} (h1 : 1 ≤ m) (h5 : m ≤ 5) : 2 ≤ 2 ^ m.toNat ∧ 2 ^ m.toNat ≤ 32 ∧ ((2 ^ m.toNat : Nat) : Int) = 2 ^ m.toNat := by
  have c : m = 1 ∨ m = 2 ∨ m = 3 ∨ m = 4 ∨ m = 5 := by omega
  rcases c with rfl | rfl | rfl | rfl | rfl <;> decide
end
section
attribute [-simp] DV.cells sliceD
attribute [local simp] cells_st cells_sl cells_i cells_y cells_b cells_s cells_w
/-- 1 if f holds wherever g does below N, 0 if nowhere, else -1 -/
def fo (f g : Nat → Bool) (N : Nat) : Int := if allTo (fun s => !g s || f s) N then 1 else if allTo (fun s => !g s || !f s) N then 0 else -1
theorem fo_1 {f g : Nat → Bool} {N : Nat} : fo f g N = 1 ↔ ∀ s, s < N → g s = true → f s = true := by
  unfold fo
  constructor
  · intro h
    split at h
    · rename_i ha
      intro s hs hg
      have := allTo_iff.1 ha s hs
      simpa [hg] using this
    · split at h <;> cases h
  · intro h
    rw [if_pos (allTo_iff.2 fun s hs => by
      cases hg : g s with
      | false => rfl
      | true => simp [h s hs hg])]
theorem fo_0 {f g : Nat → Bool} {N : Nat} (hne : ∃ s, s < N ∧ g s = true) : fo f g N = 0 ↔ ∀ s, s < N → g s = true → f s = false := by
  obtain ⟨s0, h0, g0⟩ := hne
  unfold fo
  constructor
  · intro h
    split at h
    · cases h
    · split at h
      · rename_i ha
        intro s hs hg
        have := allTo_iff.1 ha s hs
        simpa [hg] using this
      · cases h
  · intro h
    rw [if_neg, if_pos (allTo_iff.2 fun s hs => by
      cases hg : g s with
      | false => rfl
      | true => simp [h s hs hg])]
    intro ha
    have := allTo_iff.1 ha s0 h0
    simp [g0, h s0 h0 g0] at this
theorem fo_or (f g : Nat → Bool) (N : Nat) : fo f g N = 1 ∨ fo f g N = 0 ∨ fo f g N = -1 := by
  unfold fo
  split
  · simp
  · split <;> simp
theorem fo_b {f g : Nat → Bool} {N : Nat} (hne : ∃ s, s < N ∧ g s = true) (b : Bool) : fo f g N = bI b ↔ ∀ s, s < N → g s = true → f s = b := by
  cases b with
  | true => exact fo_1
  | false => exact fo_0 hne
/-- What the states say that agree. -/
def agB (ks : List Int) (s : Nat) : Bool := ag ks (s : Int)
theorem agB_cons (k : Int) (r : List Int) (s : Nat) : agB (k :: r) s = ((k == -1 || k == bI (s.testBit 0)) && agB r (s / 2)) := by
  unfold agB
  simp only [ag]
  have e1 : (s : Int) % 2 = bI (s.testBit 0) := by
    unfold bI
    rw [Nat.testBit_zero]
    by_cases h : s % 2 = 1
    · simp [h]; omega
    · simp [h]; omega
  have e2 : (s : Int) / 2 = ((s / 2 : Nat) : Int) := by omega
  rw [e1, e2]
theorem agB_some : ∀ {ks : List Int}, ks.all kOk = true → ∃ s, s < 2 ^ ks.length ∧ agB ks s = true
  | [], _ => ⟨0, by simp, rfl⟩
  | k :: r, h => by
    simp only [List.all_cons, Bool.and_eq_true] at h
    obtain ⟨s, h1, h2⟩ := agB_some h.2
    have hk : -1 ≤ k ∧ k ≤ 1 := by simpa [kOk] using h.1
    have c : k = -1 ∨ k = 0 ∨ k = 1 := by omega
    have key : ∀ b : Bool, k = -1 ∨ k = bI b → ∃ s, s < 2 ^ (k :: r).length ∧ agB (k :: r) s = true := by
      intro b hb
      refine ⟨2 * s + (if b then 1 else 0), ?_, ?_⟩
      · rw [List.length_cons, Nat.pow_succ]; cases b <;> simp <;> omega
      · rw [agB_cons]
        have e1 : (2 * s + (if b then 1 else 0)) / 2 = s := by cases b <;> simp <;> omega
        have e2 : (2 * s + (if b then 1 else 0)).testBit 0 = b := by rw [Nat.testBit_zero]; cases b <;> simp <;> omega
        rw [e1, e2, h2]
        rcases hb with rfl | rfl <;> simp
    rcases c with rfl | rfl | rfl
    · exact key true (.inl rfl)
    · exact key false (.inr rfl)
    · exact key true (.inr rfl)
end
section
attribute [-simp] DV.cells sliceD
attribute [local simp] cells_st cells_sl cells_i cells_y cells_b cells_s cells_w
/-- what is known of a term by what is known of its tests -/
def foT (m : Int) (ts : List T) (ks : List Int) : Int := fo (tv ts) (agB ks) (2 ^ m.toNat)
theorem ks_some {m : Int} {ks : List Int} (h : ksOk m ks = true) : ∃ s, s < 2 ^ m.toNat ∧ agB ks s = true := by
  obtain ⟨h1, h2, h3⟩ := ksOk_iff.1 h
  obtain ⟨s, q1, q2⟩ := agB_some h3
  exact ⟨s, by rw [show m.toNat = ks.length by omega]; exact q1, q2⟩
def told (m : Nat) (st so : Nat) : List Int := (List.range m).map fun k => if so.testBit k then bI (st.testBit k) else -1
theorem bI_eq1 (b : Bool) : (bI b == 1) = b := by cases b <;> rfl
end
section
attribute [-simp] DV.cells sliceD
attribute [local simp] cells_st cells_sl cells_i cells_y cells_b cells_s cells_w
def agW : List Int → Nat → BitVec 32 → BitVec 32
  | [], _, w => w
  | k :: r, i, w => agW r (i + 1) (if k = 0 then w &&& ~~~(yesW i) else if k = 1 then w &&& yesW i else w)
theorem agW_bit : ∀ {ks : List Int} {i : Nat} {w : BitVec 32} {s : Nat}, ks.all kOk = true → i + ks.length ≤ 5 → s < 32 → (agW ks i w).getLsbD s = (w.getLsbD s && agB ks (s / 2 ^ i))
  | [], i, w, s, _, _, _ => by simp [agW, agB, ag]
  | k :: r, i, w, s, h, hi, hs => by
    simp only [List.all_cons, Bool.and_eq_true] at h
    simp only [List.length_cons] at hi
    have hk : -1 ≤ k ∧ k ≤ 1 := by simpa [kOk] using h.1
    simp only [agW]
    rw [agW_bit h.2 (by omega) hs, agB_cons]
    have e1 : s / 2 ^ (i + 1) = s / 2 ^ i / 2 := by rw [Nat.pow_succ, Nat.div_div_eq_div_mul]
    have e2 : (s / 2 ^ i).testBit 0 = s.testBit i := by rw [Nat.testBit_div_two_pow]; simp
    have y := yes_bit ⟨i, by omega⟩ ⟨s, hs⟩
    simp only at y
    rw [e1, e2]
    have c : k = -1 ∨ k = 0 ∨ k = 1 := by omega
    rcases c with rfl | rfl | rfl
    · simp
    · rw [if_pos rfl, BitVec.getLsbD_and, BitVec.getLsbD_not, y]
      cases w.getLsbD s <;> cases s.testBit i <;> simp [bI, hs]
    · rw [if_neg (by omega), if_pos rfl, BitVec.getLsbD_and, y]
      cases w.getLsbD s <;> cases s.testBit i <;> simp [bI]
theorem yes_at {i : Nat} (h : i < 5) : ([DV.w 2863311530#32, DV.w 3435973836#32, DV.w 4042322160#32, DV.w 4278255360#32, DV.w 4294901760#32])[i]? = some (.w (yesW i)) := by
  have c : i = 0 ∨ i = 1 ∨ i = 2 ∨ i = 3 ∨ i = 4 := by omega
  rcases c with rfl | rfl | rfl | rfl | rfl <;> rfl
/-- the states that say so of a test -/
def syI (k : Nat) (b : Int) : BitVec 32 := if b = 1 then yesW k else ~~~ yesW k
theorem c_impl_statesSaying {k : Nat} (hk : k < 5) (b : Int) : call lf n_impl_statesSaying [.i k, .i b] = some (.w (syI k b), []) := by
  have y := yes_at hk
  have k5 : (k : Int) < 5 := by omega
  rw [call_k lf n_impl_statesSaying _ (F := F_impl_statesSaying) rfl rfl]
  unfold syI
  by_cases h : b = 1
  · have e : (b == 1) = true := by simpa using h
    simp [F_impl_statesSaying, gEnv_2, y, k5, e, h]
  · have e : (b == 1) = false := by simpa using h
    simp [F_impl_statesSaying, gEnv_2, y, k5, e, h]
set_option maxHeartbeats 4000000 in
theorem ones_bit {s : Nat} (hs : s < 32) : (4294967295#32).getLsbD s = true := by
  have : ∀ s : _root_.Fin 32, (4294967295#32).getLsbD s.val = true := by decide +kernel
  exact this ⟨s, hs⟩
theorem agB_mod : ∀ {ks : List Int} (s : Nat), agB ks (s % 2 ^ ks.length) = agB ks s
  | [], s => rfl
  | k :: r, s => by
    rw [agB_cons, agB_cons, List.length_cons]
    have e1 : (s % 2 ^ (r.length + 1)).testBit 0 = s.testBit 0 := by rw [Nat.testBit_mod_two_pow]; simp
    have e2 : s % 2 ^ (r.length + 1) / 2 = (s / 2) % 2 ^ r.length := by rw [Nat.pow_succ, Nat.mul_comm, Nat.mod_mul_right_div_self]
    rw [e1, e2, agB_mod (ks := r) (s / 2)]
theorem tv_mod {m : Int} {ts : List T} (h : tmOk m ts = true) {s : Nat} (hs : s < 32) : tv ts (s % 2 ^ m.toNat) = tv ts s := by
  obtain ⟨h1, _, _⟩ := tmOk_iff.1 h
  obtain ⟨x, hb, _, _, htv⟩ := tv_tree h
  have hle : s % 2 ^ m.toNat < 32 := Nat.lt_of_le_of_lt (Nat.mod_le _ _) hs
  rw [htv _ hs, htv _ hle]
  refine ev_congr (m := m) (fun a ha => ?_) hb
  rw [Nat.testBit_mod_two_pow]
  have : a < m.toNat := by omega
  simp [this]
theorem and_eq_iff (A W : BitVec 32) : (W &&& A = A) ↔ ∀ s, s < 32 → A.getLsbD s = true → W.getLsbD s = true := by
  constructor
  · intro h s hs ha
    have := congrArg (fun v => BitVec.getLsbD v s) h
    simp only [BitVec.getLsbD_and, ha, Bool.and_true] at this
    exact this
  · intro h
    apply BitVec.eq_of_getLsbD_eq
    intro s hs
    rw [BitVec.getLsbD_and]
    cases ha : A.getLsbD s with
    | false => simp
    | true => simp [h s hs ha]
theorem and_zero_iff (A W : BitVec 32) : (W &&& A = 0#32) ↔ ∀ s, s < 32 → A.getLsbD s = true → W.getLsbD s = false := by
  constructor
  · intro h s hs ha
    have := congrArg (fun v => BitVec.getLsbD v s) h
    simp only [BitVec.getLsbD_and, ha, Bool.and_true, BitVec.getLsbD_zero] at this
    exact this
  · intro h
    apply BitVec.eq_of_getLsbD_eq
    intro s hs
    rw [BitVec.getLsbD_and, BitVec.getLsbD_zero]
    cases ha : A.getLsbD s with
    | false => simp
    | true => simp [h s hs ha]
theorem ag_bits {m : Int} {ts : List T} {ks : List Int} (h1 : tmOk m ts = true) (h2 : ksOk m ks = true) (b : Bool) :
    (∀ s, s < 32 → (agW ks 0 (4294967295#32)).getLsbD s = true → (tsW ts).getLsbD s = b) ↔ foT m ts ks = bI b := by
  obtain ⟨h3, _, _⟩ := tmOk_iff.1 h1
  obtain ⟨_, k2, k3⟩ := ksOk_iff.1 h2
  obtain ⟨p1, p2, p3⟩ := pow5 h3.1 h3.2
  have hl : m.toNat = ks.length := by omega
  have key : ∀ s, s < 32 → (agW ks 0 (4294967295#32)).getLsbD s = agB ks s := fun s hs => by
    rw [agW_bit k3 (by omega) hs, ones_bit hs]; simp
  unfold foT
  rw [fo_b (ks_some h2)]
  constructor
  · intro h s hs hg
    exact h s (by omega) (by rw [key s (by omega)]; exact hg)
  · intro h s hs hg
    rw [key s hs, ← agB_mod, ← hl] at hg
    have := h (s % 2 ^ m.toNat) (Nat.mod_lt _ (by omega)) hg
    rw [tv_mod h1 hs] at this
    exact this
/-- the value among some states -/
def vaW (v w : BitVec 32) : Int := if v &&& w == w then 1 else if v &&& w == 0#32 then 0 else -1
theorem c_impl_valueAmong (v w : BitVec 32) : call lf n_impl_valueAmong [.w v, .w w] = some (.i (vaW v w), []) := by
  rw [call_k lf n_impl_valueAmong _ (F := F_impl_valueAmong) rfl rfl]
  unfold vaW
  cases h1 : (v &&& w == w) with
  | true => simp [F_impl_valueAmong, h1]
  | false =>
    cases h2 : (v &&& w == 0#32) with
    | true => simp [F_impl_valueAmong, h1, h2]
    | false => simp [F_impl_valueAmong, h1, h2]
theorem vaW_foT {m : Int} {ts : List T} {ks : List Int} (h1 : tmOk m ts = true) (h2 : ksOk m ks = true) : vaW (tsW ts) (agW ks 0 (4294967295#32)) = foT m ts ks := by
  have a1 := ag_bits h1 h2 true
  have a0 := ag_bits h1 h2 false
  rw [← and_eq_iff] at a1
  rw [← and_zero_iff] at a0
  unfold vaW
  generalize agW ks 0 (4294967295#32) = A at *
  rcases fo_or (tv ts) (agB ks) (2 ^ m.toNat) with h | h | h
  · have e : foT m ts ks = 1 := h
    rw [if_pos (by rw [a1.2 e]; exact beq_self_eq_true _), e]
  · have e : foT m ts ks = 0 := h
    have q := a0.2 e
    rw [if_neg, if_pos (by rw [q]; exact beq_self_eq_true _), e]
    intro hq
    have := a1.1 (by simpa using hq)
    rw [e] at this; cases this
  · have e : foT m ts ks = -1 := h
    rw [if_neg, if_neg, e]
    · intro hq
      have := a0.1 (by simpa using hq)
      rw [e] at this; cases this
    · intro hq
      have := a1.1 (by simpa using hq)
      rw [e] at this; cases this
end
section
attribute [-simp] DV.cells sliceD
attribute [local simp] cells_st cells_sl cells_i cells_y cells_b cells_s cells_w
theorem div_bI (a s : Nat) : (a : Int) / 2 ^ s % 2 = bI (a.testBit s) := by
  unfold bI
  rw [Nat.testBit_eq_decide_div_mod_eq]
  have : (a : Int) / 2 ^ s % 2 = ((a / 2 ^ s % 2 : Nat) : Int) := by simp
  rw [this]
  by_cases h : a / 2 ^ s % 2 = 1
  · simp [h]
  · have : a / 2 ^ s % 2 = 0 := by omega
    simp [this]
theorem c_impl_hasTest (so k : Nat) (hk : k ≤ 40) : call lf n_impl_hasTest [.i so, .i k] = some (.b (so.testBit k), []) := by
  rw [call_k lf n_impl_hasTest _ (F := F_impl_hasTest) rfl rfl]
  have ni : ¬ (k : Int) < 0 := by omega
  have e : andI (shrI (so : Int) (k : Int)) 1 = bI (so.testBit k) := by
    rw [bit_and, shr1 (by omega) (by omega), Int.toNat_natCast, div_bI]
  simp [F_impl_hasTest, ni, e, bI_eq1]
end
section
attribute [-simp] DV.cells
attribute [local simp] cells_st cells_sl cells_i cells_y cells_b cells_s
theorem or_lt {a b m : Int} (h1 : 1 ≤ m) (h5 : m ≤ 5) (a0 : 0 ≤ a) (a1 : a < 2 ^ m.toNat) (b0 : 0 ≤ b) (b1 : b < 2 ^ m.toNat) : 0 ≤ orI a b ∧ orI a b < 2 ^ m.toNat ∧ (orI a b).toNat = a.toNat ||| b.toNat := by
  obtain ⟨x, rfl⟩ := Int.eq_ofNat_of_zero_le a0
  obtain ⟨y, rfl⟩ := Int.eq_ofNat_of_zero_le b0
  obtain ⟨p1, p2, p3⟩ := pow5 h1 h5
  have hx : x < 2 ^ m.toNat := by omega
  have hy : y < 2 ^ m.toNat := by omega
  have := Nat.or_lt_two_pow hx hy
  rw [orI_nat (by omega) (by omega)]
  exact ⟨by omega, by omega, rfl⟩
end
section
attribute [-simp] DV.cells
attribute [local simp] cells_st cells_sl cells_i cells_y cells_b cells_s
def dT (t : T) : T := if t.1 = 2 then (3, 0) else if t.1 = 3 then (2, 0) else t
set_option maxHeartbeats 4000000 in
theorem l_impl_DualTerm (n : Int) (hb : n < 1099511627776) (es : List DV) (N : Nat) (rest : List T) : ∀ ds : List DV, N = ds.length + rest.length → n = N → es.drop ds.length = rest.map e2 →
    ex lf F_impl_DualTerm_W0 ⟨[(5, .own 7184 N 0 N), (15, .sl 0 es), (16, .i n), (17, .i ds.length)], [(7184, ds ++ List.replicate rest.length (.st [.i 0, .i 0]))]⟩ =
      some (.exit 0, ⟨[(5, .own 7184 N 0 N), (15, .sl 0 es), (16, .i n), (17, .i n)], [(7184, ds ++ (rest.map dT).map e2)]⟩) := by
  induction rest with
  | nil =>
    intro ds h1 h2 h3
    rw [w_impl_DualTerm_0]
    simp at h1
    subst h2; subst h1
    simp [F_impl_DualTerm_L0]
  | cons t rest ih =>
    intro ds h1 h2 h3
    simp only [List.length_cons] at h1
    obtain ⟨s1, s2, s3, s4, s5, s6⟩ := stp (es := es) (xs := rest.map e2) (x := e2 t) (k := (ds.length : Int)) (n := n) (by omega) (by simp; omega) hb (by simpa using h3)
    have ih' := ih (ds ++ [e2 (dT t)]) (by simp; omega) h2 (by rw [List.length_append, List.length_singleton]; have := s6; rw [show ((ds.length : Int) + 1).toNat = ds.length + 1 by omega] at this; exact this)
    rw [w_impl_DualTerm_0]
    have e1 : atN (ds ++ .st [.i 0, .i 0] :: List.replicate rest.length (.st [.i 0, .i 0])) ds.length = some (.st [.i 0, .i 0]) := by
      show (ds ++ _)[ds.length]? = _; simp
    have e3 : ∀ v, (ds ++ DV.st [.i 0, .i 0] :: List.replicate rest.length (.st [.i 0, .i 0])).set ds.length v = ds ++ v :: List.replicate rest.length (.st [.i 0, .i 0]) := fun v => by simp
    have e4 : ds.length < N := by omega
    have e5 : ds.length + (rest.length + 1) = N := by omega
    simp only [e2] at s2
    simp [e2] at ih'
    by_cases h2' : t.1 = 2
    · have hd : dT t = (3, 0) := by simp [dT, h2']
      rw [hd] at ih'
      simp at ih'
      simp [F_impl_DualTerm_L0, s1, s2, s3, h2', e1, e3, e4, e5, hd, e2, List.replicate_succ, ih']
    · have g2 : (t.1 == 2) = false := by simp [h2']
      by_cases h3' : t.1 = 3
      · have hd : dT t = (2, 0) := by simp [dT, h3']
        rw [hd] at ih'
        simp at ih'
        simp [F_impl_DualTerm_L0, s1, s2, s3, h3', e1, e3, e4, e5, hd, e2, List.replicate_succ, ih']
      · have g3 : (t.1 == 3) = false := by simp [h3']
        have hd : dT t = t := by simp [dT, h2', h3']
        rw [hd] at ih'
        simp [F_impl_DualTerm_L0, s1, s2, s3, h2', h3', g2, g3, e1, e3, e4, e5, hd, e2, List.replicate_succ, ih']
theorem c_impl_DualTerm (m : Int) (ts : List T) (hb : (ts.length : Int) < 1000000000) : call lf n_impl_DualTerm [.i m, .sl 0 (ts.map e2)] = some (if tmOk m ts then .fr 2 ((ts.map dT).map e2) else .fr 2 [], []) := by
  rw [call_k lf n_impl_DualTerm _ (F := F_impl_DualTerm) rfl rfl]
  have C := c_impl_TermOk m ts (by omega)
  cases h : tmOk m ts with
  | false =>
    rw [h] at C
    simp [F_impl_DualTerm, C]
  | true =>
    rw [h] at C
    have L := l_impl_DualTerm ts.length (by omega) (ts.map e2) ts.length ts [] (by simp) rfl (by simp)
    have b1 : (ts.length : Int) ≤ (bound : Int) := by unfold bound; omega
    simp at L
    simp [F_impl_DualTerm, C, L, b1]
end
section
theorem c_alive : call lf n_laws_alive [] = some (.b true, []) := by
  rw [call_k lf n_laws_alive _ (F := F_laws_alive) rfl rfl]
  have a := c_impl_TestsOk [(1, 1)] (by simp)
  have b := c_impl_TestsOk [(0, 0)] (by simp)
  have a1 : tsOk [(1, 1)] = true := by decide
  have b1 : tsOk [(0, 0)] = false := by decide
  rw [a1] at a
  rw [b1] at b
  simp [e2] at a b
  simp [F_laws_alive, a, b]
end
section
attribute [-simp] DV.cells
attribute [local simp] cells_st cells_sl cells_i cells_y cells_b cells_s
theorem runM_dual (m : Int) : ∀ {ts : List T} {p q : Int}, runM m p ts = some q → runM m p (ts.map dT) = some q ∧ (ts.map dT).map dT = ts
  | [], p, q, h => ⟨h, rfl⟩
  | t :: ts, p, q, h => by
    simp only [runM] at h
    cases hm : mkS m p t with
    | none => rw [hm] at h; cases h
    | some p1 =>
      rw [hm] at h
      obtain ⟨h1, h2⟩ := runM_dual m h
      have key : mkS m p (dT t) = some p1 ∧ dT (dT t) = t := by
        by_cases k2 : t.1 = 2
        · have hd : dT t = (3, 0) := by unfold dT; rw [if_pos k2]
          rw [hd]
          unfold mkS at hm
          rw [if_neg (by omega), if_neg (by omega), if_pos (.inl k2)] at hm
          split at hm
          · rename_i hc
            injection hm with hm
            refine ⟨?_, ?_⟩
            · unfold mkS
              rw [if_neg (show ¬ (3 : Int) = 0 by omega), if_neg (show ¬ (3 : Int) = 1 by omega), if_pos (.inr rfl), if_pos ⟨rfl, hc.2⟩, hm]
            · unfold dT
              rw [if_neg (show ¬ (3 : Int) = 2 by omega), if_pos rfl]
              exact Prod.ext k2.symm hc.1.symm
          · cases hm
        · by_cases k3 : t.1 = 3
          · have hd : dT t = (2, 0) := by unfold dT; rw [if_neg k2, if_pos k3]
            rw [hd]
            unfold mkS at hm
            rw [if_neg (by omega), if_neg (by omega), if_pos (.inr k3)] at hm
            split at hm
            · rename_i hc
              injection hm with hm
              refine ⟨?_, ?_⟩
              · unfold mkS
                rw [if_neg (show ¬ (2 : Int) = 0 by omega), if_neg (show ¬ (2 : Int) = 1 by omega), if_pos (.inl rfl), if_pos ⟨rfl, hc.2⟩, hm]
              · unfold dT
                rw [if_pos rfl]
                exact Prod.ext k3.symm hc.1.symm
            · cases hm
          · have hd : dT t = t := by unfold dT; rw [if_neg k2, if_neg k3]
            rw [hd]; exact ⟨hm, hd⟩
      simp only [List.map_cons, runM, key.1, key.2, h1, h2, and_self]
theorem tm_dual {m : Int} {ts : List T} (h : tmOk m ts = true) : tmOk m (ts.map dT) = true ∧ (ts.map dT).map dT = ts ∧ ts ≠ [] := by
  obtain ⟨h1, h2, h3⟩ := tmOk_iff.1 h
  obtain ⟨d1, d2⟩ := runM_dual m h3
  refine ⟨tmOk_iff.2 ⟨h1, by rw [List.length_map]; exact h2, d1⟩, d2, fun e => ?_⟩
  rw [e] at h3; simp only [runM] at h3; cases h3
end
section
theorem fold_flt {P : Type} (mk : T → List P → P) : ∀ (x : Tm) (st : List P), (flt x).foldl (stepG mk) st = st ++ [valG mk x]
  | .tst a, st => by simp [flt, valG, stepG_0]
  | .neg x, st => by
    simp only [flt, List.foldl_append, fold_flt mk x, List.foldl_cons, List.foldl_nil]
    rw [stepG_1]; rfl
  | .and x y, st => by
    simp only [flt, List.foldl_append, fold_flt mk x, fold_flt mk y, List.foldl_cons, List.foldl_nil, List.append_assoc, List.cons_append, List.nil_append]
    rw [stepG_2 _ _ _ _ _ _ (.inl rfl)]; rfl
  | .or x y, st => by
    simp only [flt, List.foldl_append, fold_flt mk x, fold_flt mk y, List.foldl_cons, List.foldl_nil, List.append_assoc, List.cons_append, List.nil_append]
    rw [stepG_2 _ _ _ _ _ _ (.inr rfl)]; rfl
theorem tv_flt {m : Int} (hm : m ≤ 5) {x : Tm} (hb : tb m x) {s : Nat} (hs : s < 32) : tv (flt x) s = ev s x := by
  unfold tv tsW
  rw [fold_flt]
  exact val_bit hm hb hs
def dTm : Tm → Tm
  | .tst a => .tst a
  | .neg x => .neg (dTm x)
  | .and x y => .or (dTm x) (dTm y)
  | .or x y => .and (dTm x) (dTm y)
theorem flt_dual : ∀ x : Tm, flt (dTm x) = (flt x).map dT
  | .tst a => by simp [dTm, flt, dT]
  | .neg x => by simp [dTm, flt, dT, flt_dual x]
  | .and x y => by simp [dTm, flt, dT, flt_dual x, flt_dual y]
  | .or x y => by simp [dTm, flt, dT, flt_dual x, flt_dual y]
theorem tb_dual {m : Int} : ∀ {x : Tm}, tb m x → tb m (dTm x)
  | .tst a, h => h
  | .neg x, h => tb_dual (x := x) h
  | .and x y, h => ⟨tb_dual (x := x) h.1, tb_dual (x := y) h.2⟩
  | .or x y, h => ⟨tb_dual (x := x) h.1, tb_dual (x := y) h.2⟩
theorem ev_dual {m : Int} {s s' : Nat} (h : ∀ a : Nat, (a : Int) < m → s'.testBit a = !s.testBit a) : ∀ {x : Tm}, tb m x → ev s' (dTm x) = !ev s x
  | .tst a, hb => h a hb
  | .neg x, hb => by simp only [dTm, ev, ev_dual h (x := x) hb]
  | .and x y, hb => by simp only [dTm, ev, ev_dual h (x := x) hb.1, ev_dual h (x := y) hb.2, Bool.not_and]
  | .or x y, hb => by simp only [dTm, ev, ev_dual h (x := x) hb.1, ev_dual h (x := y) hb.2, Bool.not_or]
/-- the opposite state -/
def opp (m : Int) (s : Nat) : Nat := 2 ^ m.toNat - 1 - s
theorem opp_bit {m : Int} {s : Nat} (hs : s < 2 ^ m.toNat) {a : Nat} (ha : a < m.toNat) : (opp m s).testBit a = !s.testBit a := by
  unfold opp
  rw [show 2 ^ m.toNat - 1 - s = 2 ^ m.toNat - (s + 1) by omega, Nat.testBit_two_pow_sub_succ hs]
  simp [ha]
theorem opp_lt {m : Int} {s : Nat} (hs : s < 2 ^ m.toNat) : opp m s < 2 ^ m.toNat := by unfold opp; omega
theorem tv_dual {m : Int} {ts : List T} (h : tmOk m ts = true) {s : Nat} (hs : s < 2 ^ m.toNat) : tv (ts.map dT) (opp m s) = !tv ts s := by
  obtain ⟨h1, _, _⟩ := tmOk_iff.1 h
  obtain ⟨p1, p2, p3⟩ := pow5 h1.1 h1.2
  obtain ⟨x, hb, hf, _, htv⟩ := tv_tree h
  have ho := opp_lt hs
  rw [htv s (by omega), ← hf, ← flt_dual, tv_flt h1.2 (tb_dual hb) (by omega)]
  exact ev_dual (fun a ha => opp_bit hs (by omega)) hb
end
section
theorem agB_iff : ∀ {ks : List Int} {s : Nat}, agB ks s = true ↔ ∀ k v, ks[k]? = some v → v = -1 ∨ v = bI (s.testBit k)
  | [], s => by simp [agB, ag]
  | a :: r, s => by
    rw [agB_cons]
    simp only [Bool.and_eq_true, Bool.or_eq_true, beq_iff_eq]
    rw [agB_iff (ks := r)]
    constructor
    · rintro ⟨h1, h2⟩ k v hv
      cases k with
      | zero => simp at hv; subst hv; exact h1
      | succ k => simp at hv; have := h2 k v hv; rw [Nat.testBit_succ]; exact this
    · intro h
      refine ⟨h 0 a rfl, fun k v hv => ?_⟩
      have := h (k + 1) v (by simpa using hv)
      rw [Nat.testBit_succ] at this
      exact this
theorem bI_inj {a b : Bool} : bI a = bI b ↔ a = b := by cases a <;> cases b <;> simp [bI]
theorem eq_of_low {m a b : Nat} (ha : a < 2 ^ m) (hb : b < 2 ^ m) (h : ∀ k, k < m → a.testBit k = b.testBit k) : a = b := by
  apply Nat.eq_of_testBit_eq
  intro k
  by_cases hk : k < m
  · exact h k hk
  · rw [Nat.testBit_lt_two_pow (Nat.lt_of_lt_of_le ha (Nat.pow_le_pow_right (by omega) (by omega))), Nat.testBit_lt_two_pow (Nat.lt_of_lt_of_le hb (Nat.pow_le_pow_right (by omega) (by omega)))]
end
section
attribute [-simp] DV.cells
attribute [local simp] cells_st cells_sl cells_i cells_y cells_b cells_s cells_w
theorem or_fin : ∀ (s : _root_.Fin 32) (k : _root_.Fin 5), orI (s.val : Int) ((2 : Int) ^ k.val) = ((s.val ||| 2 ^ k.val : Nat) : Int) := by decide +kernel
theorem or_nat {s k : Nat} (hs : s < 32) (hk : k < 5) : orI (s : Int) ((2 : Int) ^ k) = ((s ||| 2 ^ k : Nat) : Int) := or_fin ⟨s, hs⟩ ⟨k, hk⟩
end
section
attribute [-simp] DV.cells
attribute [local simp] cells_st cells_sl cells_i cells_y cells_b cells_s cells_w
def twP (ts : List T) (t : List T) (s : Nat) : Int := if tv t s then wt ts s else 0
def tw (ts t : List T) (n : Nat) : Int := sumTo (twP ts t) n
end
section
/-- each of the tests once, from those on that some tests are -/
def orS (m : Int) : Nat → List Int → Bool
  | _, [] => true
  | so, a :: r => decide (0 ≤ a ∧ a < m) && !so.testBit a.toNat && orS m (so ||| 2 ^ a.toNat) r
def orOk (m : Int) (os : List Int) : Bool := nOk m && decide ((os.length : Int) = m) && orS m 0 os
def setO : Nat → List Int → Nat
  | so, [] => so
  | so, a :: r => setO (so ||| 2 ^ a.toNat) r
theorem orS_cons {m : Int} {so : Nat} {a : Int} {r : List Int} : orS m so (a :: r) = true ↔ (0 ≤ a ∧ a < m) ∧ so.testBit a.toNat = false ∧ orS m (so ||| 2 ^ a.toNat) r = true := by
  simp [orS, and_assoc]
theorem orOk_iff {m : Int} {os : List Int} : orOk m os = true ↔ (1 ≤ m ∧ m ≤ 5) ∧ (os.length : Int) = m ∧ orS m 0 os = true := by
  rw [orOk, Bool.and_eq_true, Bool.and_eq_true, nOk_iff, decide_eq_true_eq, and_assoc]
theorem or_bit (so a k : Nat) : (so ||| 2 ^ a).testBit k = (so.testBit k || decide (a = k)) := by
  rw [Nat.testBit_or, Nat.testBit_two_pow]
theorem or_lt2 {m so a : Nat} (h : so < 2 ^ m) (ha : a < m) : so ||| 2 ^ a < 2 ^ m := Nat.or_lt_two_pow h (Nat.pow_lt_pow_right (by omega) ha)
theorem setO_bit : ∀ {os : List Int} {so k : Nat}, (∀ o ∈ os, 0 ≤ o) → ((setO so os).testBit k = true ↔ so.testBit k = true ∨ (k : Int) ∈ os)
  | [], _, _, _ => by simp [setO]
  | a :: r, so, k, h => by
    have ha := h a (by simp)
    rw [setO, setO_bit (os := r) (fun o ho => h o (by simp [ho])), or_bit]
    simp only [Bool.or_eq_true, decide_eq_true_eq, List.mem_cons]
    have : a.toNat = k ↔ (k : Int) = a := by omega
    rw [this, or_assoc]
/-- how many tests are not among some -/
def uc (so : Nat) : Nat → Nat
  | 0 => 0
  | i + 1 => uc so i + if so.testBit i then 0 else 1
theorem uc_zero : ∀ n, uc 0 n = n
  | 0 => rfl
  | n + 1 => by simp [uc, uc_zero n]
theorem uc_congr {a b : Nat} : ∀ {n}, (∀ k, k < n → a.testBit k = b.testBit k) → uc a n = uc b n
  | 0, _ => rfl
  | n + 1, h => by simp only [uc]; rw [uc_congr (fun k hk => h k (by omega)), h n (by omega)]
theorem uc_or {so a : Nat} : ∀ {n}, a < n → so.testBit a = false → uc (so ||| 2 ^ a) n + 1 = uc so n
  | 0, h, _ => by omega
  | n + 1, h, hb => by
    simp only [uc]
    by_cases e : a = n
    · subst e
      rw [uc_congr (a := so ||| 2 ^ a) (b := so) (fun k hk => by rw [or_bit, decide_eq_false (by omega), Bool.or_false]), or_bit, hb]
      simp
    · have := uc_or (so := so) (a := a) (n := n) (by omega) hb
      rw [or_bit, decide_eq_false e, Bool.or_false]
      omega
theorem uc_all {so : Nat} : ∀ {n}, uc so n = 0 → ∀ k, k < n → so.testBit k = true
  | 0, _, k, hk => by omega
  | n + 1, h, k, hk => by
    simp only [uc] at h
    rcases Nat.lt_succ_iff_lt_or_eq.1 hk with q | rfl
    · exact uc_all (n := n) (by omega) k q
    · cases hb : so.testBit k with
      | true => rfl
      | false => rw [hb] at h; simp at h
theorem uc_setO {m : Int} (hm : 0 ≤ m) : ∀ {os : List Int} {so : Nat}, orS m so os = true → uc (setO so os) m.toNat + os.length = uc so m.toNat
  | [], _, _ => by simp [setO]
  | a :: r, so, h => by
    obtain ⟨h1, h2, h3⟩ := orS_cons.1 h
    have i := uc_setO hm (os := r) h3
    have u := uc_or (so := so) (a := a.toNat) (n := m.toNat) (by omega) h2
    simp only [setO, List.length_cons]; omega
theorem set_all {m : Int} {os : List Int} (h : orOk m os = true) : ∀ k, k < m.toNat → (setO 0 os).testBit k = true := by
  obtain ⟨h1, h2, h3⟩ := orOk_iff.1 h
  have u := uc_setO (by omega) h3
  rw [uc_zero] at u
  exact uc_all (by omega)
def cA (us : List T) (a : Nat) : Int := (us.getD a (0, 0)).1
theorem cA_nn {us : List T} (h : us.all tOk = true) (k : Nat) : 0 ≤ cA us k ∧ (k < us.length → 1 ≤ cA us k) ∧ cA us k ≤ 9 := by
  unfold cA
  by_cases hk : k < us.length
  · have e : us.getD k (0, 0) = us[k] := by simp [List.getD, hk]
    rw [e]
    have := tOk_iff.1 (List.all_eq_true.1 h us[k] (List.getElem_mem hk))
    omega
  · have e : us.getD k (0, 0) = (0, 0) := by simp [List.getD, List.getElem?_eq_none (by omega : us.length ≤ k)]
    rw [e]; simp; omega
end
section
theorem orS_nodup {m : Int} : ∀ {os : List Int} {so : Nat}, orS m so os = true ↔ (∀ o ∈ os, (0 ≤ o ∧ o < m) ∧ so.testBit o.toNat = false) ∧ os.Nodup
  | [], so => by simp [orS]
  | a :: r, so => by
    rw [orS_cons, orS_nodup (os := r), List.nodup_cons]
    constructor
    · rintro ⟨h1, h2, h3, h4⟩
      refine ⟨fun o ho => ?_, fun hm => ?_, h4⟩
      · rcases List.mem_cons.1 ho with rfl | ho
        · exact ⟨h1, h2⟩
        · obtain ⟨q1, q2⟩ := h3 o ho
          rw [or_bit, Bool.or_eq_false_iff] at q2
          exact ⟨q1, q2.1⟩
      · have q := (h3 a hm).2
        rw [or_bit] at q; simp at q
    · rintro ⟨h1, h2, h3⟩
      obtain ⟨a1, a2⟩ := h1 a (by simp)
      refine ⟨a1, a2, fun o ho => ?_, h3⟩
      obtain ⟨q1, q2⟩ := h1 o (by simp [ho])
      refine ⟨q1, ?_⟩
      rw [or_bit, q2, Bool.false_or, decide_eq_false]
      intro e
      have : a = o := by omega
      exact h2 (this ▸ ho)
theorem orS_perm {m : Int} {so : Nat} {p q : List Int} (h : p.Perm q) : orS m so p = orS m so q := by
  rw [Bool.eq_iff_iff, orS_nodup, orS_nodup, h.nodup_iff]
  constructor
  · exact fun k => ⟨fun o ho => k.1 o (h.mem_iff.2 ho), k.2⟩
  · exact fun k => ⟨fun o ho => k.1 o (h.mem_iff.1 ho), k.2⟩
theorem orOk_perm {m : Int} {p q : List Int} (h : p.Perm q) : orOk m p = orOk m q := by
  unfold orOk
  rw [orS_perm h, h.length_eq]
def rng (n : Nat) : List Int := (List.range n).map fun (k : Nat) => (k : Int)
theorem rng_len (n : Nat) : (rng n).length = n := by simp [rng]
theorem rng_succ (n : Nat) : rng (n + 1) = rng n ++ [(n : Int)] := by simp [rng, List.range_succ]
theorem mem_rng {n : Nat} {o : Int} : o ∈ rng n ↔ 0 ≤ o ∧ o < n := by
  unfold rng
  rw [List.mem_map]
  constructor
  · rintro ⟨k, h, rfl⟩; have := List.mem_range.1 h; omega
  · intro h; exact ⟨o.toNat, List.mem_range.2 (by omega), by omega⟩
theorem rng_ok {m : Int} (h : 1 ≤ m ∧ m ≤ 5) : orOk m (rng m.toNat) = true := by
  rw [orOk_iff, orS_nodup]
  refine ⟨h, by rw [rng_len]; omega, fun o ho => ?_, ?_⟩
  · have := mem_rng.1 ho
    exact ⟨by omega, by simp⟩
  · unfold rng
    rw [List.nodup_iff_pairwise_ne, List.pairwise_map]
    exact List.Pairwise.imp (fun {a b} (hab : a ≠ b) h => hab (Int.ofNat_inj.1 h)) (List.nodup_iff_pairwise_ne.1 List.nodup_range)
theorem orOk_len {m : Int} {os : List Int} (h : orOk m os = true) : (os.length : Int) = m := (orOk_iff.1 h).2.1
theorem perm_ok {m : Int} {os : List Int} (h : 1 ≤ m ∧ m ≤ 5) (p : os.Perm (rng m.toNat)) : orOk m os = true := by rw [orOk_perm p]; exact rng_ok h
end
section
def hkn (m : Nat) (ks : List Int) (so : Nat) : Prop := ∀ k, k < m → (ks[k]? = some (-1) ↔ so.testBit k = false)
def non (m : Nat) : List Int := List.replicate m (-1)
theorem wk_non : ∀ us : List T, wk us (non us.length) = 6 ^ us.length
  | [] => rfl
  | t :: r => by
    have := wk_non r
    unfold non at *
    rw [List.length_cons, List.replicate_succ, wk, this, if_pos rfl, Int.pow_succ, Int.mul_comm]
end
section
attribute [-simp] DV.cells sliceD
attribute [local simp] cells_st cells_sl cells_i cells_y cells_b cells_s cells_w
theorem hasTest_i {so : Nat} {a : Int} (h0 : 0 ≤ a) (h5 : a < 5) : call lf n_impl_hasTest [.i so, .i a] = some (.b (so.testBit a.toNat), []) := by
  have := c_impl_hasTest so a.toNat (by omega)
  rw [Int.toNat_of_nonneg h0] at this
  exact this
theorem or_i {so : Nat} {a : Int} (hs : so < 32) (h0 : 0 ≤ a) (h5 : a < 5) : orI (so : Int) (shlI 1 a) = ((so ||| 2 ^ a.toNat : Nat) : Int) := by
  rw [shl1 h0 (by omega)]
  exact or_nat hs (by omega)
theorem pow_le5 {m : Int} (h : 1 ≤ m ∧ m ≤ 5) : 2 ^ m.toNat ≤ 32 := (pow5 h.1 h.2).2.1
theorem l_impl_OrderOk {m : Int} (hm : 1 ≤ m ∧ m ≤ 5) (n : Int) (hb : n < 1099511627776) (es : List DV) (rest : List Int) : ∀ (k : Int) (so : Nat), so < 2 ^ m.toNat → 0 ≤ k → k + (rest.map DV.i).length = n → es.drop k.toNat = rest.map .i →
    ex lf F_impl_OrderOk_W0 ⟨[(0, .i m), (5, .i so), (17, .sl 0 es), (18, .i n), (19, .i k)], []⟩ =
    if orS m so rest = true then some (.exit 0, ⟨[(0, .i m), (5, .i (setO so rest : Nat)), (17, .sl 0 es), (18, .i n), (19, .i n)], []⟩) else some (.ret, ⟨[(4, .b false)], []⟩) := by
  have p5 := pow_le5 hm
  induction rest with
  | nil =>
    intro k so hs h0 hn hd
    rw [w_impl_OrderOk_0]
    have hk : k = n := by simpa using hn
    simp [F_impl_OrderOk_L0, hk, orS, setO]
  | cons a rest ih =>
    intro k so hs h0 hn hd
    obtain ⟨q1, q2, q3, q4, q5, q6⟩ := stp h0 hn hb hd
    have w : wr (m - 1) = m - 1 := wr_id (by omega) (by omega)
    rw [w_impl_OrderOk_0]
    by_cases ha : 0 ≤ a ∧ a < m
    · have e1 : decide (0 ≤ a ∧ a ≤ m - 1) = true := decide_eq_true (by omega)
      have e2 : decide (0 ≤ a ∧ a < m) = true := decide_eq_true ha
      have H := hasTest_i (so := so) ha.1 (by omega)
      have n0 : ¬ a < 0 := by omega
      have o := or_i (so := so) (by omega) ha.1 (by omega : a < 5)
      have ih := ih (k + 1) (so ||| 2 ^ a.toNat) (or_lt2 hs (by omega)) q4 q5 q6
      simp only [orS, e2, Bool.true_and, setO]
      cases hb : so.testBit a.toNat with
      | true =>
        rw [hb] at H
        simp [F_impl_OrderOk_L0, q1, q2, q3, w, c_impl_isWithin, e1, H]
      | false =>
        rw [hb] at H
        simp [F_impl_OrderOk_L0, q1, q2, q3, w, c_impl_isWithin, e1, H, n0, o, ih]
    · have e1 : decide (0 ≤ a ∧ a ≤ m - 1) = false := decide_eq_false (by omega)
      have e2 : decide (0 ≤ a ∧ a < m) = false := decide_eq_false ha
      simp only [orS, e2, Bool.false_and]
      simp [F_impl_OrderOk_L0, q1, q2, q3, w, c_impl_isWithin, e1]
theorem c_impl_OrderOk (m : Int) (os : List Int) (hb : (os.length : Int) < 1099511627776) : call lf n_impl_OrderOk [.i m, .sl 0 (os.map .i)] = some (.b (orOk m os), []) := by
  rw [call_k lf n_impl_OrderOk _ (F := F_impl_OrderOk) rfl rfl]
  unfold orOk
  cases h1 : nOk m with
  | false => simp [F_impl_OrderOk, c_impl_manyOk, h1]
  | true =>
    by_cases h2 : (os.length : Int) = m
    · have L := l_impl_OrderOk (nOk_iff.1 h1) os.length hb (os.map .i) os 0 0 (Nat.pow_pos (by omega)) (by omega) (by simp) (by simp)
      simp only [Int.natCast_zero] at L
      cases h3 : orS m 0 os <;> rw [h3] at L <;> simp at L <;> simp [F_impl_OrderOk, c_impl_manyOk, h1, h2, L, h3] <;> (subst h2; simp [L])
    · have y : ((os.length : Int) != m) = true := bne_iff_ne.2 h2
      simp [F_impl_OrderOk, c_impl_manyOk, h1, y, h2]
end
section
attribute [-simp] DV.cells
attribute [local simp] sliceD cells_st cells_sl cells_i cells_y cells_b cells_s cells_w
theorem ins_perm {p q : List Int} {i : Nat} (h : (p ++ q).Perm (rng i)) : (p ++ (i : Int) :: q).Perm (rng (i + 1)) := by
  rw [rng_succ]
  refine List.perm_middle.trans ?_
  refine (List.Perm.cons _ h).trans ?_
  exact (List.perm_append_singleton _ _).symm
theorem perm_len {us : List Int} {i : Nat} (h : us.Perm (rng i)) : us.length = i := by rw [h.length_eq, rng_len]
set_option maxHeartbeats 4000000 in
theorem l_l20Order {bs : List Nat} (hb : ∀ y ∈ bs, y < 256) (hl : bs.length ≤ 2000) (m : Nat) (hm : m ≤ 5) (n : Int) (j : Nat) : ∀ (i : Nat) (p : Int) (K : Nat) (os : List Int), (K = 5640 ∨ K = 11272) → 0 ≤ p → p + j < 900000 → i + j = m → os.Perm (rng i) →
    ∃ us : List Int, us.Perm (rng m) ∧
    ex lf F_spec_l20Order_W0 ⟨[(0, .oad 23 1 0 0), (1, .i m), (2, .i n), (7, .own K i 0 i), (8, .i i)], [(23, [.st [.sl 0 (bs.map .y), .i p]]), (K, os.map .i)]⟩ =
      some (.exit 0, ⟨[(0, .oad 23 1 0 0), (1, .i m), (2, .i n), (7, .own 5640 m 0 m), (8, .i m)], [(23, [.st [.sl 0 (bs.map .y), .i (p + j)]]), (5640, us.map .i)]⟩) := by
  induction j with
  | zero =>
    intro i p K os hK h0 h1 h2 h3
    have : i = m := by omega
    subst this
    have lo := perm_len h3
    refine ⟨os, h3, ?_⟩
    rw [w_spec_l20Order_0]
    rcases hK with rfl | rfl <;> simp [F_spec_l20Order_L0, lo]
  | succ j ih =>
    intro i p K os hK h0 h1 h2 h3
    have lo := perm_len h3
    have b1 := pk_bound hb h0 (by omega : p ≤ 1000000) (by omega : (1 : Int) ≤ (i : Int) + 1)
    have k1 := c_pick hb hl h0 (by omega : p < 1000000) (by omega : (1 : Int) ≤ (i : Int) + 1)
    obtain ⟨a, ha⟩ : ∃ a : Nat, pk bs p ((i : Int) + 1) = a := ⟨(pk bs p ((i : Int) + 1)).toNat, by omega⟩
    rw [ha] at k1 b1
    obtain ⟨x, y, rfl, rfl⟩ : ∃ x y, os = x ++ y ∧ x.length = a := ⟨os.take a, os.drop a, (List.take_append_drop a os).symm, by simp; omega⟩
    have P := ins_perm h3
    have w1 : wr ((i : Int) + 1) = (i : Int) + 1 := wr_id (by omega) (by omega)
    obtain ⟨us, u1, u2⟩ := ih (i + 1) (p + 1) 11272 (x ++ (i : Int) :: y) (.inr rfl) (by omega) (by omega) (by omega) P
    refine ⟨us, u1, ?_⟩
    rw [show p + ((j + 1 : Nat) : Int) = p + 1 + j by omega]
    have lxy : x.length + y.length = i := by simpa using lo
    have hlt : (i : Int) < m := by omega
    have c1 : x.length ≤ bound := by unfold bound; omega
    have c2 : x.length + 1 ≤ bound := by unfold bound; omega
    have c3 : i + 1 ≤ bound := by unfold bound; omega
    have xi : x.length ≤ i := by omega
    have xi' : (x.length : Int) ≤ i := by omega
    have t1 : ((x ++ y).map DV.i).take x.length = x.map .i := by simp
    have t2 : ((x ++ y).map DV.i).drop x.length = y.map .i := by simp
    have t3 : (x ++ y).map DV.i = ((x ++ y).map DV.i).take i := (List.take_of_length_le (by simp; omega)).symm
    have t4 : List.take i ((x ++ y).map DV.i) = (x ++ y).map DV.i := t3.symm
    have hL : ((x ++ y).map DV.i).length = i := by simp; omega
    have e1 : x.length + 1 + y.length = i + 1 := by omega
    rw [w_spec_l20Order_0]
    simp only [Int.natCast_add, Int.natCast_one, List.map_append, List.map_cons] at u2
    have n0 : ¬ (i < x.length) := by omega
    generalize (x ++ y).map DV.i = L at *
    rcases hK with rfl | rfl <;> simp [F_spec_l20Order_L0, hlt, lo, k1, w1, hL, t1, t2, t4, c1, c2, c3, xi, xi', e1, u2]
end
section
def rwOk (row : Int) : Bool := decide (0 ≤ row ∧ row ≤ 1)
/-- the chance of a test to end a row -/
def eA (us : List T) (row : Int) (a : Nat) : Int := if row = 0 then 6 - (us.getD a (0, 0)).2 else (us.getD a (0, 0)).2
def rA (us : List T) (row : Int) : Int → List Int → Int
  | _, [] => 0
  | on, a :: r => cA us a.toNat * on * 6 ^ (r.length + 1) + rA us row (on * (6 - eA us row a.toNat)) r
theorem eA_bd {us : List T} (h : us.all tOk = true) {row : Int} {a : Nat} (ha : a < us.length) : 1 ≤ eA us row a ∧ eA us row a ≤ 5 := by
  have e : us.getD a (0, 0) = us[a] := by simp [List.getD, ha]
  have := tOk_iff.1 (List.all_eq_true.1 h us[a] (List.getElem_mem ha))
  unfold eA
  rw [e]
  split <;> omega
end
section
/-- the one costs no more for its chance to end than the other -/
def rLe (us : List T) (row : Int) (a b : Int) : Bool := decide (cA us a.toNat * eA us row b.toNat ≤ cA us b.toNat * eA us row a.toNat)
def insR (us : List T) (row : Int) (k : Int) : List Int → List Int
  | [] => [k]
  | o :: r => if rLe us row o k = true then o :: insR us row k r else k :: o :: r
def rO (us : List T) (row : Int) : Nat → List Int
  | 0 => []
  | n + 1 => insR us row (n : Int) (rO us row n)
theorem insR_perm (us : List T) (row k : Int) : ∀ l : List Int, (insR us row k l).Perm (k :: l)
  | [] => List.Perm.refl _
  | o :: r => by
    simp only [insR]
    split
    · exact ((insR_perm us row k r).cons o).trans (List.Perm.swap k o r)
    · exact List.Perm.refl _
theorem rO_perm (us : List T) (row : Int) : ∀ n : Nat, (rO us row n).Perm (rng n)
  | 0 => List.Perm.refl _
  | n + 1 => by
    rw [rng_succ]
    exact (insR_perm us row n (rO us row n)).trans (((rO_perm us row n).cons (n : Int)).trans (List.perm_append_comm (l₁ := [(n : Int)])))
theorem rO_mem {us : List T} {row : Int} {n : Nat} {o : Int} (h : o ∈ rO us row n) : 0 ≤ o ∧ o < n := mem_rng.1 ((rO_perm us row n).mem_iff.1 h)
theorem rO_len (us : List T) (row : Int) (n : Nat) : (rO us row n).length = n := by rw [(rO_perm us row n).length_eq, rng_len]
theorem rO_ok {us : List T} (h : tsOk us = true) (row : Int) : orOk us.length (rO us row us.length) = true := by
  have h' := tsOk_iff.1 h
  exact perm_ok (m := us.length) (by omega) (by rw [Int.toNat_natCast]; exact rO_perm us row us.length)
theorem rLe_trans {us : List T} (h : us.all tOk = true) {row a b c : Int} (ha : a.toNat < us.length) (hb : b.toNat < us.length) (hc : c.toNat < us.length)
    (h1 : rLe us row a b = true) (h2 : rLe us row b c = true) : rLe us row a c = true := by
  unfold rLe at *
  rw [decide_eq_true_eq] at *
  have ea := eA_bd h (row := row) ha
  have eb := eA_bd h (row := row) hb
  have ec := eA_bd h (row := row) hc
  refine Int.le_of_mul_le_mul_right (a := eA us row b.toNat) ?_ (by omega)
  have q1 := Int.mul_le_mul_of_nonneg_right h1 (show 0 ≤ eA us row c.toNat by omega)
  have q2 := Int.mul_le_mul_of_nonneg_right h2 (show 0 ≤ eA us row a.toNat by omega)
  revert q1 q2
  generalize cA us a.toNat = ca
  generalize cA us b.toNat = cb
  generalize cA us c.toNat = cc
  generalize eA us row a.toNat = x
  generalize eA us row b.toNat = y
  generalize eA us row c.toNat = z
  intro q1 q2
  have e1 : ca * z * y = ca * y * z := by rw [Int.mul_assoc, Int.mul_comm z, Int.mul_assoc]
  have e2 : cb * x * z = cb * z * x := by rw [Int.mul_assoc, Int.mul_comm x, Int.mul_assoc]
  have e3 : cc * x * y = cc * y * x := by rw [Int.mul_assoc, Int.mul_comm x, Int.mul_assoc]
  omega
theorem rLe_total {us : List T} {row a b : Int} (h : rLe us row a b = false) : rLe us row b a = true := by
  unfold rLe at *
  rw [decide_eq_true_eq]
  rw [decide_eq_false_iff_not] at h
  omega
theorem insR_sorted {us : List T} (h : us.all tOk = true) {row k : Int} (hk : k.toNat < us.length) : ∀ {l : List Int}, (∀ o ∈ l, o.toNat < us.length) → l.Pairwise (fun a b => rLe us row a b = true) → (insR us row k l).Pairwise (fun a b => rLe us row a b = true)
  | [], _, _ => List.pairwise_singleton _ _
  | o :: r, hm, hp => by
    obtain ⟨p1, p2⟩ := List.pairwise_cons.1 hp
    have ho := hm o (List.mem_cons_self ..)
    have hr : ∀ x ∈ r, x.toNat < us.length := fun x hx => hm x (List.mem_cons_of_mem _ hx)
    simp only [insR]
    by_cases hc : rLe us row o k = true
    · rw [if_pos hc]
      refine List.pairwise_cons.2 ⟨fun x hx => ?_, insR_sorted h hk hr p2⟩
      rcases List.mem_cons.1 ((insR_perm us row k r).mem_iff.1 hx) with rfl | hx
      · exact hc
      · exact p1 x hx
    · rw [if_neg hc]
      have hc' : rLe us row k o = true := rLe_total (by simpa using hc)
      refine List.pairwise_cons.2 ⟨fun x hx => ?_, hp⟩
      rcases List.mem_cons.1 hx with rfl | hx
      · exact hc'
      · exact rLe_trans h hk ho (hr x hx) hc' (p1 x hx)
theorem rO_sorted {us : List T} (h : us.all tOk = true) (row : Int) : ∀ n : Nat, n ≤ us.length → (rO us row n).Pairwise (fun a b => rLe us row a b = true)
  | 0, _ => List.Pairwise.nil
  | n + 1, hn => by
    refine insR_sorted h (by omega) (fun o ho => ?_) (rO_sorted h row n (by omega))
    have := rO_mem ho
    omega
theorem rng_nodup (n : Nat) : (rng n).Nodup := List.Pairwise.map _ (fun a b h e => h (by omega)) (List.nodup_range (n := n))
theorem or_perm {m : Int} {os : List Int} (h : orOk m os = true) : os.Perm (rng m.toNat) := by
  obtain ⟨g1, g2, g3⟩ := orOk_iff.1 h
  obtain ⟨n1, n2⟩ := orS_nodup.1 g3
  refine (List.perm_ext_iff_of_nodup n2 (rng_nodup _)).2 fun o => ?_
  constructor
  · intro ho
    exact mem_rng.2 (by have := (n1 o ho).1; omega)
  · intro ho
    have hr := mem_rng.1 ho
    have := set_all h o.toNat (by omega)
    rw [setO_bit (fun x hx => (n1 x hx).1.1)] at this
    rcases this with q | q
    · simp at q
    · rwa [Int.toNat_of_nonneg hr.1] at q
end
section
def fl (s : Int) (i : Nat) : Bool := s / 2 ^ i % 2 == 1
def onceM : List T → Int → Bool
  | [], _ => true
  | t :: r, s => if t.1 = 0 then (!fl s t.2.toNat && onceM r (orI s (2 ^ t.2.toNat))) else onceM r s
def onceOk (m : Int) (ts : List T) : Bool := tmOk m ts && onceM ts 0
end
section
theorem cA_other (us : List T) (a : Nat) : cA (us.map other) a = cA us a := by
  unfold cA
  by_cases h : a < us.length
  · simp [List.getD, h, other]
  · simp [List.getD, h]
def pN : List T → Int
  | [] => 1
  | t :: r => (6 - t.2) * pN r
theorem wt_none : ∀ us : List T, wt us ((0 : Nat) : Int) = pN us
  | [] => rfl
  | t :: r => by
    have := (wt_two t r 0).1
    rw [wt_none r] at this
    exact this
end
section
attribute [-simp] DV.cells sliceD
attribute [local simp] cells_st cells_sl cells_i cells_y cells_b cells_s cells_w
theorem non_len (k : Nat) : (non k).length = k := by simp [non]
end
section
attribute [-simp] DV.cells sliceD
attribute [local simp] cells_st cells_sl cells_i cells_y cells_b cells_s cells_w
theorem cA_at {us : List T} {a : Int} (h0 : 0 ≤ a) (h1 : a < us.length) : ∃ c q : Int, atI (us.map e2) a = some (.st [.i c, .i q]) ∧ c = cA us a.toNat ∧ us.getD a.toNat (0, 0) = (c, q) := by
  have hl : a.toNat < us.length := by omega
  have e : us.getD a.toNat (0, 0) = us[a.toNat] := by simp [List.getD, hl]
  refine ⟨us[a.toNat].1, us[a.toNat].2, ?_, ?_, e⟩
  · simp only [atI, if_pos h0]
    show (us.map e2)[a.toNat]? = _
    simp [hl, e2]
  · unfold cA; rw [e]
end
section
attribute [-simp] DV.cells sliceD
attribute [local simp] cells_st cells_sl cells_i cells_y cells_b cells_s cells_w
theorem p6 : ∀ {n : Nat}, n ≤ 5 → (1 : Int) ≤ 6 ^ n ∧ (6 : Int) ^ n ≤ 7776 := by
  intro n hn
  have : n = 0 ∨ n = 1 ∨ n = 2 ∨ n = 3 ∨ n = 4 ∨ n = 5 := by omega
  rcases this with rfl | rfl | rfl | rfl | rfl | rfl <;> decide
def stW (us : List T) (tab : Nat) (os : List Int) (k : Nat) (ks : List Int) (w a sum sd : Int) : LS :=
  ⟨[(0, .sl 0 (us.map e2)), (1, .i tab), (2, .sl 0 (os.map .i)), (3, .i k), (4, .sl 0 (ks.map .i)), (5, .i w), (13, .i a), (14, .i sum), (15, .i sd)], []⟩
end
section
attribute [-simp] DV.cells
attribute [local simp] sliceD cells_st cells_sl cells_i cells_y cells_b cells_s cells_w
def raOk (us : List T) (os : List Int) (row : Int) : Bool := tsOk us && orOk us.length os && rwOk row
def raOf (us : List T) (os : List Int) (row : Int) : Int := if raOk us os row then rA us row 1 os else -1
theorem p6le {i j : Nat} (h : i + j ≤ 5) {on : Int} (h0 : 0 ≤ on) (h1 : on ≤ 6 ^ i) : 0 ≤ on * 6 ^ j ∧ on * 6 ^ j ≤ 7776 := by
  have pj := p6 (n := j) (by omega)
  have q := (p6 h).2
  rw [Int.pow_add] at q
  have := Int.mul_le_mul_of_nonneg_right h1 (show (0 : Int) ≤ 6 ^ j by omega)
  have := Int.mul_nonneg h0 (show (0 : Int) ≤ 6 ^ j by omega)
  omega
end
section
attribute [-simp] DV.cells
attribute [local simp] sliceD cells_st cells_sl cells_i cells_y cells_b cells_s cells_w
def insPos (us : List T) (row k : Int) : List Int → Nat
  | [] => 0
  | o :: r => if rLe us row o k = true then insPos us row k r + 1 else 0
theorem insPos_le (us : List T) (row k : Int) : ∀ l : List Int, insPos us row k l ≤ l.length
  | [] => Nat.le_refl _
  | o :: r => by
    have := insPos_le us row k r
    simp only [insPos, List.length_cons]
    split <;> omega
theorem insR_pos (us : List T) (row k : Int) : ∀ l : List Int, insR us row k l = l.take (insPos us row k l) ++ k :: l.drop (insPos us row k l)
  | [] => rfl
  | o :: r => by
    simp only [insR, insPos]
    by_cases h : rLe us row o k = true
    · rw [if_pos h, if_pos h, insR_pos us row k r]; simp
    · rw [if_neg h, if_neg h]; simp
end
section
attribute [-simp] DV.cells
attribute [local simp] sliceD cells_st cells_sl cells_i cells_y cells_b cells_s cells_w
def roL (us : List T) (row : Int) : List Int := if tsOk us && rwOk row then rO us row us.length else []
end
section
inductive PT where
  | stop
  | ask (k : Nat) (no yes : PT)
/-- how many are not known -/
def uk : List Int → Nat
  | [] => 0
  | k :: r => (if k = -1 then 1 else 0) + uk r
theorem uk_set {b : Int} (hb : b ≠ -1) : ∀ {ks : List Int} {k : Nat}, ks[k]? = some (-1) → uk (ks.set k b) + 1 = uk ks
  | [], k, h => by simp at h
  | x :: r, 0, h => by
    simp only [List.getElem?_cons_zero, Option.some.injEq] at h
    subst h
    simp only [List.set_cons_zero, uk, if_neg hb, if_true]
    omega
  | x :: r, k + 1, h => by
    simp only [List.getElem?_cons_succ] at h
    have := uk_set hb h
    simp only [List.set_cons_succ, uk]
    omega
theorem uk_le : ∀ ks : List Int, uk ks ≤ ks.length
  | [] => Nat.le_refl _
  | k :: r => by have := uk_le r; simp only [uk, List.length_cons]; split <;> omega
theorem uk_zero : ∀ {ks : List Int}, uk ks = 0 → ∀ k : Nat, ks[k]? ≠ some (-1)
  | [], _, k, h => by simp at h
  | x :: r, h, 0, hk => by
    simp only [List.getElem?_cons_zero, Option.some.injEq] at hk
    simp [uk, hk] at h
  | x :: r, h, k + 1, hk => by
    simp only [List.getElem?_cons_succ] at hk
    simp only [uk] at h
    exact uk_zero (by omega) k hk
theorem uk_none : ∀ {ks : List Int}, (∀ k : Nat, ks[k]? ≠ some (-1)) → uk ks = 0
  | [], _ => rfl
  | x :: r, h => by
    have h0 := h 0
    simp only [List.getElem?_cons_zero, ne_eq, Option.some.injEq] at h0
    simp only [uk]
    rw [if_neg h0, uk_none fun k hk => h (k + 1) (by simpa using hk)]
theorem uk_pos {ks : List Int} {k : Nat} (h : ks[k]? = some (-1)) : 0 < uk ks := by
  cases hu : uk ks with
  | zero => exact absurd h (uk_zero hu k)
  | succ n => omega
theorem uk_non (m : Nat) : uk (non m) = m := by
  induction m with
  | zero => rfl
  | succ n ih =>
    show uk (List.replicate (n + 1) (-1)) = n + 1
    rw [List.replicate_succ, uk, if_pos rfl, show List.replicate n (-1 : Int) = non n from rfl, ih]
    omega
/-- one more is known: what the weights are then -/
theorem wk_put : ∀ {us : List T} {ks : List Int} {k : Nat}, ks.length = us.length → ks[k]? = some (-1) →
    ∃ w, wk us ks = 6 * w ∧ wk us (ks.set k 0) = w * (6 - (us.getD k (0, 0)).2) ∧ wk us (ks.set k 1) = w * (us.getD k (0, 0)).2
  | _, [], k, _, h => by simp at h
  | [], x :: r, k, hl, h => by simp at hl
  | t :: us, x :: r, 0, hl, h => by
    simp only [List.getElem?_cons_zero, Option.some.injEq] at h
    subst h
    refine ⟨wk us r, rfl, ?_, ?_⟩
    · show (6 - t.2) * wk us r = _
      rw [Int.mul_comm]; rfl
    · show t.2 * wk us r = _
      rw [Int.mul_comm]; rfl
  | t :: us, x :: r, k + 1, hl, h => by
    simp only [List.getElem?_cons_succ] at h
    obtain ⟨w, h1, h2, h3⟩ := wk_put (us := us) (by simpa using hl) h
    have e : ∀ ks : List Int, wk (t :: us) (x :: ks) = (if x = -1 then 6 else if x = 1 then t.2 else 6 - t.2) * wk us ks := fun _ => rfl
    generalize hc : (if x = -1 then 6 else if x = 1 then t.2 else 6 - t.2) = c at e
    refine ⟨c * w, ?_, ?_, ?_⟩
    · rw [e, h1, Int.mul_left_comm]
    · rw [List.set_cons_succ, e, h2, Int.mul_assoc]; rfl
    · rw [List.set_cons_succ, e, h3, Int.mul_assoc]; rfl
theorem wk_two {us : List T} {ks : List Int} {k : Nat} (hl : ks.length = us.length) (h : ks[k]? = some (-1)) : wk us (ks.set k 0) + wk us (ks.set k 1) = wk us ks := by
  obtain ⟨w, h1, h2, h3⟩ := wk_put hl h
  rw [h1, h2, h3, ← Int.mul_add, Int.mul_comm]
  congr 1
  omega
theorem agB_put {b : Bool} {s : Nat} : ∀ {ks : List Int} {k : Nat}, ks[k]? = some (-1) → agB (ks.set k (bI b)) s = (agB ks s && (s.testBit k == b)) := by
  intro ks k h
  rw [Bool.eq_iff_iff, Bool.and_eq_true, agB_iff, agB_iff, beq_iff_eq]
  have hk : k < ks.length := (List.getElem?_eq_some_iff.1 h).1
  constructor
  · intro H
    refine ⟨fun j v hj => ?_, ?_⟩
    · by_cases e : j = k
      · subst e; rw [h] at hj; injection hj with hj; exact .inl hj.symm
      · exact H j v (by rw [List.getElem?_set_ne (Ne.symm e)]; exact hj)
    · rcases H k (bI b) (by rw [List.getElem?_set_self hk]) with q | q
      · cases b <;> simp [bI] at q
      · exact (bI_inj.1 q).symm
  · rintro ⟨H, hb⟩ j v hj
    by_cases e : j = k
    · subst e
      rw [List.getElem?_set_self hk] at hj
      injection hj with hj
      right
      rw [← hj, hb]
    · rw [List.getElem?_set_ne (Ne.symm e)] at hj
      exact H j v hj
theorem bI_0 : bI false = 0 := rfl
theorem bI_1 : bI true = 1 := rfl
theorem kOk_set {ks : List Int} (h : ks.all kOk = true) (k : Nat) (b : Bool) : (ks.set k (bI b)).all kOk = true := by
  rw [List.all_eq_true] at h ⊢
  intro x hx
  rcases List.mem_or_eq_of_mem_set hx with h1 | h1
  · exact h x h1
  · rw [h1]; cases b <;> decide
theorem non_all (m : Nat) : (non m).all kOk = true := by
  rw [List.all_eq_true]
  intro x hx
  rw [List.eq_of_mem_replicate hx]
  decide
theorem agB_non (m s : Nat) : agB (non m) s = true := by
  rw [agB_iff]
  intro k v h
  left
  exact List.eq_of_mem_replicate (List.mem_of_getElem? h)
def fcd (m : Nat) (t : List T) (ks : List Int) : Bool := foT m t ks != -1
theorem fcd_iff {m : Nat} {t : List T} {ks : List Int} (hl : ks.length = m) (hk : ks.all kOk = true) : fcd m t ks = true ↔ ∃ b, ∀ s, s < 2 ^ m → agB ks s = true → tv t s = b := by
  subst hl
  have hne := agB_some hk
  have F := fun b => fo_b (f := tv t) (g := agB ks) hne b
  have O := fo_or (tv t) (agB ks) (2 ^ ks.length)
  unfold fcd foT
  rw [Int.toNat_natCast, bne_iff_ne]
  constructor
  · intro h
    rcases O with o | o | o
    · exact ⟨true, (F true).1 o⟩
    · exact ⟨false, (F false).1 o⟩
    · exact absurd o h
  · rintro ⟨b, hb⟩ h
    have := (F b).2 hb
    rw [h] at this
    cases b <;> simp [bI] at this
theorem fcd_all {m : Nat} {t : List T} {ks : List Int} (hl : ks.length = m) (hk : ks.all kOk = true) (h : uk ks = 0) : fcd m t ks = true := by
  obtain ⟨s0, q0, q1⟩ := agB_some hk
  rw [hl] at q0
  refine (fcd_iff hl hk).2 ⟨tv t s0, fun s hs ha => ?_⟩
  rw [eq_of_low hs q0 fun k hk' => ?_]
  obtain ⟨v, hv⟩ : ∃ v, ks[k]? = some v := ⟨ks[k], List.getElem?_eq_getElem (by omega)⟩
  have n1 : v ≠ -1 := fun e => uk_zero h k (by rw [hv, e])
  have a1 := (agB_iff.1 ha k v hv).resolve_left n1
  have a2 := (agB_iff.1 q1 k v hv).resolve_left n1
  exact bI_inj.1 (a1.symm.trans a2)
def okT (m : Nat) (t : List T) : List Int → PT → Prop
  | ks, .stop => fcd m t ks = true
  | ks, .ask k n y => fcd m t ks = false ∧ ks[k]? = some (-1) ∧ okT m t (ks.set k 0) n ∧ okT m t (ks.set k 1) y
/-- what a tree costs on average from what is known on -/
def tA (us : List T) : List Int → PT → Int
  | _, .stop => 0
  | ks, .ask k n y => wk us ks * cA us k + tA us (ks.set k 0) n + tA us (ks.set k 1) y
/-- the least of some sums, and the first place of it -/
def lpB (S : Nat → Int) (ks : List Int) : Nat → Int × Int
  | 0 => (-1, -1)
  | i + 1 => if ks[i]? = some (-1) then (if (lpB S ks i).1 < 0 ∨ S i < (lpB S ks i).1 then (S i, i) else lpB S ks i) else lpB S ks i
theorem lpB_spec {S : Nat → Int} {ks : List Int} (h0 : ∀ k, ks[k]? = some (-1) → 0 ≤ S k) : ∀ i : Nat,
    (lpB S ks i = (-1, -1) ∧ ∀ k, k < i → ks[k]? ≠ some (-1)) ∨ ∃ k : Nat, k < i ∧ ks[k]? = some (-1) ∧ lpB S ks i = (S k, (k : Int)) ∧ ∀ j, j < i → ks[j]? = some (-1) → S k ≤ S j ∧ (j < k → S k < S j)
  | 0 => .inl ⟨rfl, fun k h => by omega⟩
  | i + 1 => by
    simp only [lpB]
    by_cases hi : ks[i]? = some (-1)
    · rw [if_pos hi]
      have hS := h0 i hi
      rcases lpB_spec h0 i with ⟨e, hn⟩ | ⟨k, k1, k2, e, hk⟩
      · right
        rw [e, if_pos (.inl (by show (-1 : Int) < 0; omega))]
        refine ⟨i, by omega, hi, rfl, fun j hj hjk => ?_⟩
        have : j = i := by
          by_cases q : j < i
          · exact absurd hjk (hn j q)
          · omega
        subst this
        exact ⟨Int.le_refl _, fun h => by omega⟩
      · right
        rw [e]
        have hSk := h0 k k2
        by_cases hlt : S i < S k
        · rw [if_pos (.inr hlt)]
          refine ⟨i, by omega, hi, rfl, fun j hj hjk => ?_⟩
          by_cases q : j = i
          · subst q; exact ⟨Int.le_refl _, fun h => by omega⟩
          · obtain ⟨p1, p2⟩ := hk j (by omega) hjk
            exact ⟨by omega, fun _ => by omega⟩
        · rw [if_neg (by intro h; rcases h with h | h; exact absurd h (by show ¬ S k < 0; omega); exact hlt h)]
          refine ⟨k, by omega, k2, rfl, fun j hj hjk => ?_⟩
          by_cases q : j = i
          · subst q; exact ⟨by omega, fun h => by omega⟩
          · exact hk j (by omega) hjk
    · rw [if_neg hi]
      rcases lpB_spec h0 i with ⟨e, hn⟩ | ⟨k, k1, k2, e, hk⟩
      · left
        refine ⟨e, fun k hk => ?_⟩
        by_cases q : k = i
        · subst q; exact hi
        · exact hn k (by omega)
      · right
        refine ⟨k, by omega, k2, e, fun j hj hjk => ?_⟩
        by_cases q : j = i
        · subst q; exact absurd hjk hi
        · exact hk j (by omega) hjk
/-- the least average from what is known on, and the first test of a plan that reaches it -/
def bPl (us t : List T) : Nat → List Int → Int × Int
  | 0, _ => (0, -1)
  | f + 1, ks => if fcd us.length t ks = true then (0, -1) else lpB (fun k => wk us ks * cA us k + (bPl us t f (ks.set k 0)).1 + (bPl us t f (ks.set k 1)).1) ks us.length
def bS (us t : List T) (f : Nat) (ks : List Int) (k : Nat) : Int := wk us ks * cA us k + (bPl us t f (ks.set k 0)).1 + (bPl us t f (ks.set k 1)).1
/-- the tree that it reaches -/
def bT (us t : List T) : Nat → List Int → PT
  | 0, _ => .stop
  | f + 1, ks => if (bPl us t (f + 1) ks).2 = -1 then .stop else .ask (bPl us t (f + 1) ks).2.toNat (bT us t f (ks.set (bPl us t (f + 1) ks).2.toNat 0)) (bT us t f (ks.set (bPl us t (f + 1) ks).2.toNat 1))
/-- the first test of the best tree, and what it comes to -/
structure BPs (us t : List T) (f : Nat) (ks : List Int) : Prop where
  nn : 0 ≤ (bPl us t f ks).1
  stop : fcd us.length t ks = true → bPl us t f ks = (0, -1)
  go : fcd us.length t ks = false → ∃ k : Nat, ks[k]? = some (-1) ∧ (bPl us t f ks).2 = (k : Int) ∧ (bPl us t f ks).1 = bS us t (f - 1) ks k ∧ ∀ j : Nat, ks[j]? = some (-1) → (bPl us t f ks).1 ≤ bS us t (f - 1) ks j ∧ (j < k → (bPl us t f ks).1 < bS us t (f - 1) ks j)
theorem cA_nn' {us : List T} (h : us.all tOk = true) (k : Nat) : 0 ≤ cA us k := by
  have := cA_nn h k
  omega
theorem bPl_ok {us t : List T} (h : us.all tOk = true) : ∀ (f : Nat) (ks : List Int), ks.length = us.length → ks.all kOk = true → uk ks ≤ f → BPs us t f ks
  | 0, ks, hl, hk, hu => by
    have hf := fcd_all (t := t) hl hk (by omega)
    exact ⟨Int.le_refl _, fun _ => rfl, fun h => by rw [hf] at h; cases h⟩
  | f + 1, ks, hl, hk, hu => by
    have ih : ∀ k (b : Bool), ks[k]? = some (-1) → BPs us t f (ks.set k (bI b)) := fun k b h1 => by
      have := uk_set (b := bI b) (by cases b <;> simp [bI]) h1
      exact bPl_ok h f _ (by simpa using hl) (kOk_set hk k b) (by omega)
    have hS : ∀ k, ks[k]? = some (-1) → 0 ≤ bS us t f ks k := fun k h1 => by
      have a0 := (ih k false h1).nn
      have a1 := (ih k true h1).nn
      rw [bI_0] at a0
      rw [bI_1] at a1
      have w := (wk_bound (ks := ks) h).1
      have := Int.mul_nonneg (show 0 ≤ wk us ks by omega) (cA_nn' h k)
      unfold bS
      omega
    have e : bPl us t (f + 1) ks = if fcd us.length t ks = true then (0, -1) else lpB (bS us t f ks) ks us.length := rfl
    cases hf : fcd us.length t ks with
    | true =>
      rw [hf, if_pos rfl] at e
      refine ⟨by rw [e]; exact Int.le_refl _, fun _ => e, fun h => by rw [hf] at h; cases h⟩
    | false =>
      rw [hf, if_neg (by decide)] at e
      rcases lpB_spec hS us.length with ⟨_, hn⟩ | ⟨k, k1, k2, e2, hk2⟩
      · exfalso
        have hu0 := uk_none (ks := ks) fun k hk' => hn k (by rw [← hl]; exact (List.getElem?_eq_some_iff.1 hk').1) hk'
        have := fcd_all (t := t) hl hk hu0
        rw [hf] at this; cases this
      · rw [e2] at e
        refine ⟨by rw [e]; exact hS k k2, fun h => (by rw [hf] at h; cases h), fun _ => ⟨k, k2, by rw [e], by rw [e]; rfl, fun j hj => ?_⟩⟩
        rw [e]
        exact hk2 j (by rw [← hl]; exact (List.getElem?_eq_some_iff.1 hj).1) hj
/-- the best tree is one, and costs so much -/
theorem bT_ok {us t : List T} (h : us.all tOk = true) : ∀ (f : Nat) (ks : List Int), ks.length = us.length → ks.all kOk = true → uk ks ≤ f → okT us.length t ks (bT us t f ks) ∧ tA us ks (bT us t f ks) = (bPl us t f ks).1
  | 0, ks, hl, hk, hu => ⟨fcd_all hl hk (by omega), rfl⟩
  | f + 1, ks, hl, hk, hu => by
    obtain ⟨_, p2, p3⟩ := bPl_ok (t := t) h (f + 1) ks hl hk hu
    cases hf : fcd us.length t ks with
    | true =>
      have e := p2 hf
      have e1 : bT us t (f + 1) ks = .stop := by simp only [bT]; rw [e]; rfl
      rw [e1, e]
      exact ⟨hf, rfl⟩
    | false =>
      obtain ⟨k, k1, k2, k3, _⟩ := p3 hf
      have e1 : bT us t (f + 1) ks = .ask k (bT us t f (ks.set k 0)) (bT us t f (ks.set k 1)) := by
        simp only [bT]
        rw [k2, if_neg (by omega), Int.toNat_natCast]
      have q := fun (b : Bool) => bT_ok (t := t) h f (ks.set k (bI b)) (by simpa using hl) (kOk_set hk k b) (by have := uk_set (b := bI b) (by cases b <;> simp [bI]) k1; omega)
      have q0 := q false
      have q1 := q true
      rw [bI_0] at q0
      rw [bI_1] at q1
      rw [e1, k3]
      refine ⟨⟨hf, k1, q0.1, q1.1⟩, ?_⟩
      simp only [tA, bS, Nat.add_sub_cancel]
      rw [q0.2, q1.2]
/-- no tree costs less -/
theorem bPl_le {us t : List T} (h : us.all tOk = true) : ∀ (x : PT) (f : Nat) (ks : List Int), ks.length = us.length → ks.all kOk = true → uk ks ≤ f → okT us.length t ks x → (bPl us t f ks).1 ≤ tA us ks x
  | .stop, f, ks, hl, hk, hu, hx => by
    rw [(bPl_ok h f ks hl hk hu).stop hx]
    exact Int.le_refl _
  | .ask k n y, f, ks, hl, hk, hu, ⟨h1, h2, h3, h4⟩ => by
    obtain ⟨j, _, _, e, hj⟩ := (bPl_ok h f ks hl hk hu).go h1
    have up := uk_pos h2
    have q := fun (b : Bool) => uk_set (b := bI b) (by cases b <;> simp [bI]) h2
    have q0 := q false
    have q1 := q true
    rw [bI_0] at q0
    rw [bI_1] at q1
    have a0 := bPl_le h n (f - 1) (ks.set k 0) (by simpa using hl) (kOk_set hk k false) (by omega) h3
    have a1 := bPl_le h y (f - 1) (ks.set k 1) (by simpa using hl) (kOk_set hk k true) (by omega) h4
    have := (hj k h2).1
    simp only [tA]
    unfold bS at this
    omega
end
section
/-- from what is known on, from nothing known on -/
theorem ks_ex {ks : List Int} {k : Nat} (h : ks[k]? = some (-1)) : k < ks.length := (List.getElem?_eq_some_iff.1 h).1
/-- the least average of all -/
def bA (us t : List T) : Int := (bPl us t us.length (non us.length)).1
def bX (us t : List T) : PT := bT us t us.length (non us.length)
theorem bX_ok {us t : List T} (h : us.all tOk = true) : okT us.length t (non us.length) (bX us t) ∧ tA us (non us.length) (bX us t) = bA us t :=
  bT_ok h _ _ (non_len _) (non_all _) (by rw [uk_non]; exact Nat.le_refl _)
theorem bA_le {us t : List T} (h : us.all tOk = true) {x : PT} (hx : okT us.length t (non us.length) x) : bA us t ≤ tA us (non us.length) x :=
  bPl_le h x _ _ (non_len _) (non_all _) (by rw [uk_non]; exact Nat.le_refl _) hx
/-- whether a tree asks a test -/
def asks (k : Nat) : PT → Prop
  | .stop => False
  | .ask j n y => j = k ∨ asks k n ∨ asks k y
end
section
def opK (ks : List Int) : List Int := ks.map fun k => if k = -1 then -1 else 1 - k
theorem opK_len (ks : List Int) : (opK ks).length = ks.length := by simp [opK]
theorem opK_at {ks : List Int} {k : Nat} : (opK ks)[k]? = some (-1) ↔ ks[k]? = some (-1) ∨ ks[k]? = some 2 := by
  unfold opK
  rw [List.getElem?_map]
  cases h : ks[k]? with
  | none => simp
  | some x =>
    simp only [Option.map_some, Option.some.injEq]
    split <;> omega
theorem opK_un {ks : List Int} (hk : ks.all kOk = true) {k : Nat} : (opK ks)[k]? = some (-1) ↔ ks[k]? = some (-1) := by
  rw [opK_at]
  constructor
  · rintro (h | h)
    · exact h
    · have := List.all_eq_true.1 hk 2 (List.mem_of_getElem? h)
      simp [kOk] at this
  · exact .inl
theorem opK_set (ks : List Int) (k : Nat) (b : Bool) : opK (ks.set k (bI b)) = (opK ks).set k (bI (!b)) := by
  unfold opK
  rw [List.map_set]
  congr 1
  cases b <;> rfl
theorem opK_ok {ks : List Int} (hk : ks.all kOk = true) : (opK ks).all kOk = true := by
  rw [List.all_eq_true] at hk ⊢
  intro x hx
  obtain ⟨y, hy, rfl⟩ := List.mem_map.1 hx
  have := hk y hy
  simp [kOk] at this ⊢
  split <;> omega
theorem opK_non (m : Nat) : opK (non m) = non m := by simp [opK, non]
theorem wk_opK : ∀ (us : List T) (ks : List Int), ks.all kOk = true → wk (us.map other) (opK ks) = wk us ks
  | [], _, _ => rfl
  | t :: us, [], _ => rfl
  | t :: us, k :: ks, hk => by
    simp only [List.all_cons, Bool.and_eq_true] at hk
    have h1 : -1 ≤ k ∧ k ≤ 1 := by simpa [kOk] using hk.1
    have ih := wk_opK us ks hk.2
    show (if (if k = -1 then -1 else 1 - k) = -1 then 6 else if (if k = -1 then -1 else 1 - k) = 1 then (other t).2 else 6 - (other t).2) * wk (us.map other) (opK ks) = (if k = -1 then 6 else if k = 1 then t.2 else 6 - t.2) * wk us ks
    rw [ih]
    congr 1
    simp only [other]
    have : k = -1 ∨ k = 0 ∨ k = 1 := by omega
    rcases this with rfl | rfl | rfl
    · simp
    · simp
    · simp; omega
theorem agB_opK {m : Nat} {ks : List Int} (hl : ks.length = m) (hk : ks.all kOk = true) {s : Nat} (hs : s < 2 ^ m) : agB (opK ks) (opp m s) = agB ks s := by
  rw [Bool.eq_iff_iff, agB_iff, agB_iff]
  have bit : ∀ k, k < m → (opp m s).testBit k = !s.testBit k := fun k hk => by
    have := opp_bit (m := (m : Int)) (s := s) (a := k) (by rw [Int.toNat_natCast]; exact hs) (by rw [Int.toNat_natCast]; exact hk)
    exact this
  constructor
  · intro H k v hv
    have hkm : k < m := by rw [← hl]; exact (List.getElem?_eq_some_iff.1 hv).1
    have hv2 : (opK ks)[k]? = some (if v = -1 then -1 else 1 - v) := by unfold opK; rw [List.getElem?_map, hv]; rfl
    have hb := List.all_eq_true.1 hk v (List.mem_of_getElem? hv)
    simp [kOk] at hb
    rcases H k _ hv2 with h | h
    · split at h
      · left; assumption
      · omega
    · split at h
      · left; assumption
      · right
        rw [bit k hkm] at h
        cases hb2 : s.testBit k with
        | true => rw [hb2] at h; have h2 : 1 - v = 0 := h; show v = 1; omega
        | false => rw [hb2] at h; have h2 : 1 - v = 1 := h; show v = 0; omega
  · intro H k v hv
    have hkm : k < m := by rw [← hl, ← opK_len]; exact (List.getElem?_eq_some_iff.1 hv).1
    obtain ⟨u, hu⟩ : ∃ u, ks[k]? = some u := ⟨ks[k], List.getElem?_eq_getElem (by omega)⟩
    have hv2 : (opK ks)[k]? = some (if u = -1 then -1 else 1 - u) := by unfold opK; rw [List.getElem?_map, hu]; rfl
    rw [hv] at hv2
    injection hv2 with hv2
    subst hv2
    rcases H k u hu with h | h
    · left; rw [if_pos h]
    · right
      rw [bit k hkm, h]
      cases s.testBit k <;> simp [bI]
theorem oppN_lt {m s : Nat} (hs : s < 2 ^ m) : opp m s < 2 ^ m := by
  unfold opp
  rw [Int.toNat_natCast]
  omega
theorem oppN_opp {m s : Nat} (hs : s < 2 ^ m) : opp m (opp m s) = s := by
  unfold opp
  rw [Int.toNat_natCast]
  omega
theorem fcd_dual {m : Nat} {t : List T} (ht : tmOk m t = true) {ks : List Int} (hl : ks.length = m) (hk : ks.all kOk = true) : fcd m (t.map dT) (opK ks) = fcd m t ks := by
  have V : ∀ s, s < 2 ^ m → tv (t.map dT) (opp m s) = !tv t s := fun s hs => tv_dual ht (by rw [Int.toNat_natCast]; exact hs)
  rw [Bool.eq_iff_iff, fcd_iff (by rw [opK_len]; exact hl) (opK_ok hk), fcd_iff hl hk]
  constructor
  · rintro ⟨b, hb⟩
    refine ⟨!b, fun s hs ha => ?_⟩
    have := hb (opp m s) (oppN_lt hs) (by rw [agB_opK hl hk hs]; exact ha)
    rw [V s hs] at this
    rw [← this, Bool.not_not]
  · rintro ⟨b, hb⟩
    refine ⟨!b, fun s hs ha => ?_⟩
    have e := oppN_opp hs
    have := hb (opp m s) (oppN_lt hs) (by rw [← agB_opK hl hk (oppN_lt hs), e]; exact ha)
    rw [← e, V _ (oppN_lt hs), this]
/-- the tree for the dual term -/
def dPT : PT → PT
  | .stop => .stop
  | .ask k n y => .ask k (dPT y) (dPT n)
theorem dPT_two : ∀ x : PT, dPT (dPT x) = x
  | .stop => rfl
  | .ask k n y => by simp only [dPT]; rw [dPT_two n, dPT_two y]
theorem okT_dual {m : Nat} {t : List T} (ht : tmOk m t = true) : ∀ (x : PT) (ks : List Int), ks.length = m → ks.all kOk = true → (okT m (t.map dT) (opK ks) (dPT x) ↔ okT m t ks x)
  | .stop, ks, hl, hk => by
    simp only [dPT, okT]
    rw [fcd_dual ht hl hk]
  | .ask k n y, ks, hl, hk => by
    have c0 := okT_dual ht n (ks.set k (bI false)) (by simpa using hl) (kOk_set hk k false)
    have c1 := okT_dual ht y (ks.set k (bI true)) (by simpa using hl) (kOk_set hk k true)
    rw [opK_set] at c0 c1
    simp only [Bool.not_false, Bool.not_true, bI_0, bI_1] at c0 c1
    simp only [dPT, okT]
    rw [fcd_dual ht hl hk, opK_un hk, c0, c1]
    constructor
    · rintro ⟨a, b, c, d⟩; exact ⟨a, b, d, c⟩
    · rintro ⟨a, b, c, d⟩; exact ⟨a, b, d, c⟩
theorem tA_dual {us : List T} : ∀ (x : PT) (ks : List Int), ks.all kOk = true → tA (us.map other) (opK ks) (dPT x) = tA us ks x
  | .stop, _, _ => rfl
  | .ask k n y, ks, hk => by
    have c0 := tA_dual (us := us) n (ks.set k (bI false)) (kOk_set hk k false)
    have c1 := tA_dual (us := us) y (ks.set k (bI true)) (kOk_set hk k true)
    rw [opK_set] at c0 c1
    simp only [Bool.not_false, Bool.not_true, bI_0, bI_1] at c0 c1
    simp only [dPT, tA]
    rw [c0, c1, wk_opK us ks hk, cA_other]
    omega
theorem bA_dual {us t : List T} (h : tsOk us = true) (ht : tmOk us.length t = true) : bA (us.map other) (t.map dT) = bA us t := by
  have h' := tsOk_iff.1 h
  have ho := (tsOk_iff.1 (others_ok h)).2
  have lo : (us.map other).length = us.length := by simp
  obtain ⟨o1, e1⟩ := bX_ok (t := t) h'.2
  obtain ⟨o2, e2⟩ := bX_ok (us := us.map other) (t := t.map dT) ho
  rw [lo] at o2 e2
  have q1 := (okT_dual ht (bX us t) (non us.length) (non_len _) (non_all _)).2 o1
  have d1 := tA_dual (us := us) (bX us t) (non us.length) (non_all _)
  rw [opK_non] at q1 d1
  have l1 := bA_le (us := us.map other) (t := t.map dT) ho (x := dPT (bX us t)) (by rw [lo]; exact q1)
  rw [lo] at l1
  have q2 := (okT_dual ht (dPT (bX (us.map other) (t.map dT))) (non us.length) (non_len _) (non_all _)).1 (by rw [dPT_two, opK_non]; exact o2)
  have d2 := tA_dual (us := us) (dPT (bX (us.map other) (t.map dT))) (non us.length) (non_all _)
  rw [dPT_two, opK_non] at d2
  have l2 := bA_le h'.2 q2
  omega
end
section
def occ (a : Nat) : Tm → Bool
  | .tst b => b == a
  | .neg x => occ a x
  | .and x y => occ a x || occ a y
  | .or x y => occ a x || occ a y
/-- no test twice -/
def ton : Tm → Prop
  | .tst _ => True
  | .neg x => ton x
  | .and x y => ton x ∧ ton y ∧ ∀ a, occ a x = true → occ a y = false
  | .or x y => ton x ∧ ton y ∧ ∀ a, occ a x = true → occ a y = false
/-- letters are the tests that occur -/
theorem fl_bit {s : Int} (h0 : 0 ≤ s) (i : Nat) : fl s i = s.toNat.testBit i := by
  obtain ⟨n, rfl⟩ := Int.eq_ofNat_of_zero_le h0
  unfold fl
  rw [div_bI, bI_eq1]; simp
theorem lett_occ {m : Int} (h1 : 1 ≤ m) (h5 : m ≤ 5) : ∀ {x : Tm}, tb m x → ∀ {s : Int}, 0 ≤ s → s < 2 ^ m.toNat → (0 ≤ (flt x).foldl letF s ∧ (flt x).foldl letF s < 2 ^ m.toNat) ∧ ∀ a, ((flt x).foldl letF s).toNat.testBit a = (s.toNat.testBit a || occ a x)
  | .tst b, hb, s, h0, h2 => by
    have hb' : (b : Int) < m := hb
    have e : (flt (.tst b)).foldl letF s = orI s (2 ^ b) := by simp [flt, letF]
    have hp : ((2 ^ b : Nat) : Int) = 2 ^ b := by simp
    have hk2 : (2 ^ b : Nat) < 2 ^ m.toNat := Nat.pow_lt_pow_right (by omega) (by omega)
    obtain ⟨p1, p2, p3⟩ := pow5 h1 h5
    obtain ⟨q1, q2, q3⟩ := or_lt h1 h5 h0 h2 (b := 2 ^ b) (by rw [← hp]; exact Int.natCast_nonneg _) (by rw [← hp]; omega)
    rw [e]
    refine ⟨⟨q1, q2⟩, fun a => ?_⟩
    rw [q3, ← hp, Int.toNat_natCast, Nat.testBit_or, Nat.testBit_two_pow]
    rfl
  | .neg x, hb, s, h0, h2 => by
    obtain ⟨q1, q2⟩ := lett_occ h1 h5 (x := x) hb h0 h2
    have e : (flt (.neg x)).foldl letF s = (flt x).foldl letF s := by simp [flt, letF]
    rw [e]
    exact ⟨q1, q2⟩
  | .and x y, hb, s, h0, h2 => by
    obtain ⟨q1, q2⟩ := lett_occ h1 h5 (x := x) hb.1 h0 h2
    obtain ⟨r1, r2⟩ := lett_occ h1 h5 (x := y) hb.2 q1.1 q1.2
    have e : (flt (.and x y)).foldl letF s = (flt y).foldl letF ((flt x).foldl letF s) := by simp [flt, letF]
    rw [e]
    exact ⟨r1, fun a => by rw [r2, q2]; simp only [occ, Bool.or_assoc]⟩
  | .or x y, hb, s, h0, h2 => by
    obtain ⟨q1, q2⟩ := lett_occ h1 h5 (x := x) hb.1 h0 h2
    obtain ⟨r1, r2⟩ := lett_occ h1 h5 (x := y) hb.2 q1.1 q1.2
    have e : (flt (.or x y)).foldl letF s = (flt y).foldl letF ((flt x).foldl letF s) := by simp [flt, letF]
    rw [e]
    exact ⟨r1, fun a => by rw [r2, q2]; simp only [occ, Bool.or_assoc]⟩
end
section
abbrev C3 := Int × Int × Int
/-- a tree with the places of its choices -/
inductive LT where
  | stop
  | ask (p k : Nat) (no yes : LT)
def LT.er : LT → PT
  | .stop => .stop
  | .ask _ k n y => .ask k n.er y.er
def LT.size : LT → Nat
  | .stop => 0
  | .ask _ _ n y => 1 + n.size + y.size
/-- where one may go on to from a place -/
def nxt (N : Nat) (p : Nat) (a : Int) : Prop := a = -1 ∨ ((p : Int) + 1 ≤ a ∧ a ≤ (N : Int) - 1)
instance (N p : Nat) (a : Int) : Decidable (nxt N p a) := by unfold nxt; infer_instance
/-- the row holds the tree, from a place on -/
def enc (P : List C3) : Int → LT → Prop
  | a, .stop => a = -1
  | a, .ask p k n y => a = (p : Int) ∧ ∃ no ye, P[p]? = some ((k : Int), no, ye) ∧ nxt P.length p no ∧ nxt P.length p ye ∧ enc P no n ∧ enc P ye y
/-- where a row goes on to -/
def rfs : List C3 → List Int
  | [] => []
  | (_, no, ye) :: r => (if no = -1 then [] else [no]) ++ (if ye = -1 then [] else [ye]) ++ rfs r
end
section
def PT.size : PT → Nat
  | .stop => 0
  | .ask _ n y => 1 + n.size + y.size
def rot (P : List C3) : Int := if P = [] then -1 else 0
end
section
attribute [-simp] DV.cells
attribute [local simp] sliceD cells_st cells_sl cells_i cells_y cells_b cells_s cells_w
theorem lend_e3 (P : List C3) : lendL (P.map e3) = P.map e3 := by rw [lendL_map, List.map_map]; rfl
theorem adopt_e3 (o : Bool) (P : List C3) : adoptL o (P.map e3) = P.map e3 := by rw [adoptL_map, List.map_map]; rfl
theorem new_e3 (P : List C3) : allNewL (P.map e3) = true := by rw [allNewL_all, List.all_map, List.all_eq_true]; intro x _; rfl
theorem al_e3 (P : List C3) : allOldL (P.map e3) = true := by rw [allOldL_all, List.all_map, List.all_eq_true]; intro x _; rfl
theorem lt_e3 (n : Nat) (P : List C3) : lendL (List.take n (P.map e3)) = List.take n (P.map e3) := by rw [← List.map_take, lend_e3]
attribute [local simp] lend_e3 adopt_e3 new_e3 al_e3 lt_e3
def C3.nx (c : C3) (b : Bool) : Int := if b then c.2.2 else c.2.1
end
section
attribute [-simp] DV.cells sliceD
attribute [local simp] cells_st cells_sl cells_i cells_y cells_b cells_s cells_w
theorem bPl_up {us t : List T} (h : us.all tOk = true) : ∀ (f : Nat) (ks : List Int), ks.length = us.length → ks.all kOk = true → uk ks ≤ f → (bPl us t f ks).1 ≤ 9 * f * wk us ks
  | 0, ks, hl, hk, hu => by simp [bPl]
  | f + 1, ks, hl, hk, hu => by
    have B := bPl_ok (t := t) h (f + 1) ks hl hk hu
    have w := (wk_bound (ts := us) (ks := ks) h).1
    cases hf : fcd us.length t ks with
    | true =>
      rw [B.stop hf]
      exact Int.mul_nonneg (Int.mul_nonneg (by omega) (by omega)) (by omega)
    | false =>
      obtain ⟨k, k1, _, k3, _⟩ := B.go hf
      rw [k3, Nat.add_sub_cancel]
      have us' := fun b : Bool => uk_set (b := bI b) (by cases b <;> simp [bI]) k1
      have i0 := bPl_up (t := t) h f (ks.set k (bI false)) (by simpa using hl) (kOk_set hk k false) (by have := us' false; omega)
      have i1 := bPl_up (t := t) h f (ks.set k (bI true)) (by simpa using hl) (kOk_set hk k true) (by have := us' true; omega)
      rw [bI_0] at i0
      rw [bI_1] at i1
      have tw := wk_two hl k1
      have cb := (cA_nn h k).2.2
      have m1 : wk us ks * cA us k ≤ wk us ks * 9 := Int.mul_le_mul_of_nonneg_left cb (by omega)
      unfold bS
      have e : 9 * ((f : Int) + 1) * wk us ks = 9 * f * wk us (ks.set k 0) + 9 * f * wk us (ks.set k 1) + wk us ks * 9 := by
        rw [← Int.mul_add, tw, Int.mul_add, Int.add_mul, Int.mul_one]
        omega
      have e' : ((f + 1 : Nat) : Int) = (f : Int) + 1 := by omega
      rw [e', e]
      omega
end
section
attribute [-simp] DV.cells sliceD
attribute [local simp] cells_st cells_sl cells_i cells_y cells_b cells_s cells_w
attribute [local simp] lend_e3 adopt_e3 new_e3 al_e3 lt_e3
def baOf (us t : List T) : Int := if tsOk us && tmOk us.length t then bA us t else -1
end
section
def aN : List Int → Nat
  | [] => 0
  | k :: r => (if k = -1 then 0 else 1) + 2 * aN r
def kn : List Int → Nat
  | [] => 0
  | k :: r => (if k = -1 then 0 else 1) + kn r
theorem kn_uk : ∀ ks : List Int, kn ks + uk ks = ks.length
  | [] => rfl
  | k :: r => by
    have ih := kn_uk r
    simp only [kn, uk, List.length_cons]
    split <;> omega
theorem aN_lt : ∀ ks : List Int, aN ks < 2 ^ ks.length
  | [] => by decide
  | k :: r => by
    have ih := aN_lt r
    simp only [aN, List.length_cons, Nat.pow_succ]
    split <;> omega
theorem aN_non : ∀ m : Nat, aN (non m) = 0
  | 0 => rfl
  | m + 1 => by
    show (if (-1 : Int) = -1 then 0 else 1) + 2 * aN (non m) = 0
    rw [aN_non m]
    rfl
theorem aN_b0 (k : Int) (r : List Int) : (aN (k :: r)).testBit 0 = !decide (k = -1) := by
  simp only [aN, Nat.testBit_zero]
  by_cases h : k = -1
  · simp [h]
  · simp [h]
theorem aN_div (k : Int) (r : List Int) : aN (k :: r) / 2 = aN r := by
  simp only [aN]
  split <;> omega
theorem aN_bs (k : Int) (r : List Int) (i : Nat) : (aN (k :: r)).testBit (i + 1) = (aN r).testBit i := by
  rw [Nat.testBit_succ, aN_div]
theorem aN_bit : ∀ {ks : List Int} {i : Nat}, i < ks.length → ((aN ks).testBit i = !decide (ks[i]? = some (-1)))
  | [], i, h => by simp at h
  | k :: r, 0, _ => by rw [aN_b0]; simp
  | k :: r, i + 1, h => by
    rw [aN_bs, aN_bit (ks := r) (by simpa using h)]
    simp
theorem aN_set {ks : List Int} {k : Nat} {b : Int} (hb : b ≠ -1) (h : ks[k]? = some (-1)) : aN (ks.set k b) = aN ks ||| 2 ^ k := by
  apply Nat.eq_of_testBit_eq
  intro i
  have hk := ks_ex h
  rw [Nat.testBit_or, Nat.testBit_two_pow]
  by_cases hi : i < ks.length
  · rw [aN_bit (by simpa using hi), aN_bit hi]
    by_cases e : k = i
    · subst e
      rw [List.getElem?_set_self hk]
      simp [hb]
    · rw [List.getElem?_set_ne e]
      simp [e]
  · have l1 := aN_lt (ks.set k b)
    have l2 := aN_lt ks
    rw [List.length_set] at l1
    have p : 2 ^ ks.length ≤ 2 ^ i := Nat.pow_le_pow_right (by omega) (by omega)
    rw [Nat.testBit_lt_two_pow (by omega), Nat.testBit_lt_two_pow (by omega)]
    simp; omega
/-- how many ones there are, for small numbers -/
def pc (x : Nat) : Nat := x % 2 + x / 2 % 2 + x / 4 % 2 + x / 8 % 2 + x / 16 % 2
theorem pc_kn {ks : List Int} (h : ks.length ≤ 5) : pc (aN ks) = kn ks := by
  have key : ∀ k : Int, (if k = -1 then (0 : Nat) else 1) = 0 ∨ (if k = -1 then (0 : Nat) else 1) = 1 := fun k => by split <;> simp
  unfold pc
  match ks, h with
  | [], _ => rfl
  | [a], _ =>
    simp only [aN, kn]
    have hx := key a
    generalize (if a = -1 then (0 : Nat) else 1) = x at *
    rcases hx with rfl | rfl <;> rfl
  | [a, b], _ =>
    simp only [aN, kn]
    have hx := key a
    generalize (if a = -1 then (0 : Nat) else 1) = x at *
    have hy := key b
    generalize (if b = -1 then (0 : Nat) else 1) = y at *
    rcases hx with rfl | rfl <;> rcases hy with rfl | rfl <;> rfl
  | [a, b, c], _ =>
    simp only [aN, kn]
    have hx := key a
    generalize (if a = -1 then (0 : Nat) else 1) = x at *
    have hy := key b
    generalize (if b = -1 then (0 : Nat) else 1) = y at *
    have hz := key c
    generalize (if c = -1 then (0 : Nat) else 1) = z at *
    rcases hx with rfl | rfl <;> rcases hy with rfl | rfl <;> rcases hz with rfl | rfl <;> rfl
  | [a, b, c, d], _ =>
    simp only [aN, kn]
    have hx := key a
    generalize (if a = -1 then (0 : Nat) else 1) = x at *
    have hy := key b
    generalize (if b = -1 then (0 : Nat) else 1) = y at *
    have hz := key c
    generalize (if c = -1 then (0 : Nat) else 1) = z at *
    have hu := key d
    generalize (if d = -1 then (0 : Nat) else 1) = u at *
    rcases hx with rfl | rfl <;> rcases hy with rfl | rfl <;> rcases hz with rfl | rfl <;> rcases hu with rfl | rfl <;> rfl
  | [a, b, c, d, e], _ =>
    simp only [aN, kn]
    have hx := key a
    generalize (if a = -1 then (0 : Nat) else 1) = x at *
    have hy := key b
    generalize (if b = -1 then (0 : Nat) else 1) = y at *
    have hz := key c
    generalize (if c = -1 then (0 : Nat) else 1) = z at *
    have hu := key d
    generalize (if d = -1 then (0 : Nat) else 1) = u at *
    have hv := key e
    generalize (if e = -1 then (0 : Nat) else 1) = v at *
    rcases hx with rfl | rfl <;> rcases hy with rfl | rfl <;> rcases hz with rfl | rfl <;> rcases hu with rfl | rfl <;> rcases hv with rfl | rfl <;> rfl
  | _ :: _ :: _ :: _ :: _ :: _ :: _, h => simp at h
/-- what agrees, as a number -/
def lfW (ks : List Int) : BitVec 32 := agW ks 0 (4294967295#32)
theorem lfW_bit {ks : List Int} (hk : ks.all kOk = true) (hl : ks.length ≤ 5) {s : Nat} (hs : s < 32) : (lfW ks).getLsbD s = agB ks s := by
  unfold lfW
  rw [agW_bit hk (by omega) hs, ones_bit hs]
  simp
theorem lfW_non (m : Nat) (hm : m ≤ 5) : lfW (non m) = 4294967295#32 := by
  apply BitVec.eq_of_getLsbD_eq
  intro s hs
  rw [lfW_bit (non_all m) (by rw [non_len]; exact hm) hs, agB_non, ones_bit hs]
def syW (k : Nat) (b : Bool) : BitVec 32 := if b then yesW k else ~~~ yesW k
theorem lfW_set {ks : List Int} {k : Nat} (b : Bool) (hk : ks.all kOk = true) (hl : ks.length ≤ 5) (h : ks[k]? = some (-1)) : lfW (ks.set k (bI b)) = lfW ks &&& syW k b := by
  have hk5 := ks_ex h
  apply BitVec.eq_of_getLsbD_eq
  intro s hs
  have y := yes_bit ⟨k, by omega⟩ ⟨s, hs⟩
  simp only at y
  rw [lfW_bit (kOk_set hk k b) (by simpa using hl) hs, agB_put h, BitVec.getLsbD_and, lfW_bit hk hl hs]
  unfold syW
  cases b with
  | true => rw [if_pos rfl, y]; cases agB ks s <;> cases s.testBit k <;> rfl
  | false =>
    rw [if_neg (by simp), BitVec.getLsbD_not, y]
    cases agB ks s <;> cases s.testBit k <;> simp [hs]
theorem vaW_fcd {m : Nat} {t : List T} {ks : List Int} (h1 : tmOk m t = true) (hl : ks.length = m) (hk : ks.all kOk = true) : vaW (tsW t) (lfW ks) = foT m t ks := by
  obtain ⟨h3, _, _⟩ := tmOk_iff.1 h1
  exact vaW_foT h1 (ksOk_iff.2 ⟨h3, by omega, hk⟩)
end
section
abbrev Pts := List (Option (List Int))
/-- one goes on to where it is noted -/
def go3 (m : Nat) (t : List T) (N : Nat) (pts : Pts) (p : Int) (a : Int) (ks : List Int) : Prop :=
  (a = -1 ∧ fcd m t ks = true) ∨ (p + 1 ≤ a ∧ a ≤ (N : Int) - 1 ∧ pts[a.toNat]? = some (some ks))
structure Inv (m : Nat) (t : List T) (P : List C3) (p : Nat) (pts : Pts) : Prop where
  len : pts.length = P.length
  nd : (rfs (P.take p)).Nodup
  rng : ∀ a ∈ rfs (P.take p), 1 ≤ a ∧ a < P.length
  iff_ : ∀ a : Nat, a < P.length → (pts[a]? ≠ some none ↔ (a = 0 ∨ (a : Int) ∈ rfs (P.take p)))
  ok : ∀ (a : Nat) (ks : List Int), pts[a]? = some (some ks) → ks.length = m ∧ ks.all kOk = true ∧ fcd m t ks = false
  loc : ∀ q : Nat, q < p → ∃ (ks : List Int) (k no ye : Int), P[q]? = some (k, no, ye) ∧ pts[q]? = some (some ks) ∧ (0 ≤ k ∧ k < m) ∧ ks[k.toNat]? = some (-1) ∧ go3 m t P.length pts q no (ks.set k.toNat 0) ∧ go3 m t P.length pts q ye (ks.set k.toNat 1)
end
section
attribute [-simp] DV.cells
attribute [local simp] sliceD cells_st cells_sl cells_i cells_y cells_b cells_s cells_w
attribute [local simp] lend_e3 adopt_e3 new_e3 al_e3 lt_e3
def pv (m a : Int) (w v : BitVec 32) : DV := .st [.i m, .i a, .w w, .w v]
/-- the point at which so much is known -/
def pD (m : Nat) (t : List T) (ks : List Int) : DV := pv m (aN ks) (lfW ks) (tsW t)
/-- 64 bits: how many are ones -/
theorem c_OnesCount64 {n : Nat} (h : n < 32) : call lf n_math_bits_OnesCount64 [.q n] = some (.i (pc n), []) := by
  rw [call_k lf n_math_bits_OnesCount64 _ (F := F_math_bits_OnesCount64) rfl rfl]
  have c : n = 0 ∨ n = 1 ∨ n = 2 ∨ n = 3 ∨ n = 4 ∨ n = 5 ∨ n = 6 ∨ n = 7 ∨ n = 8 ∨ n = 9 ∨ n = 10 ∨ n = 11 ∨ n = 12 ∨ n = 13 ∨ n = 14 ∨ n = 15 ∨ n = 16 ∨ n = 17 ∨ n = 18 ∨ n = 19 ∨ n = 20 ∨ n = 21 ∨ n = 22 ∨ n = 23 ∨ n = 24 ∨ n = 25 ∨ n = 26 ∨ n = 27 ∨ n = 28 ∨ n = 29 ∨ n = 30 ∨ n = 31 := by omega
  rcases c with rfl | rfl | rfl | rfl | rfl | rfl | rfl | rfl | rfl | rfl | rfl | rfl | rfl | rfl | rfl | rfl | rfl | rfl | rfl | rfl | rfl | rfl | rfl | rfl | rfl | rfl | rfl | rfl | rfl | rfl | rfl | rfl <;>
    simp [F_math_bits_OnesCount64, pc, andI, wr, Go.IntKind.wrap, Go.IntKind.signed, Go.IntKind.bits]
theorem c_OnesCount {n : Nat} (h : n < 32) : call lf n_math_bits_OnesCount [.q n] = some (.i (pc n), []) := by
  have C := c_OnesCount64 h
  rw [call_k lf n_math_bits_OnesCount _ (F := F_math_bits_OnesCount) rfl rfl]
  simp [F_math_bits_OnesCount, C]
theorem c_impl_sizeOf {n : Nat} (h : n < 32) : call lf n_impl_sizeOf [.i n] = some (.i (pc n), []) := by
  have C := c_OnesCount h
  have e : ((n : Int) % 18446744073709551616).toNat = n := by omega
  rw [call_k lf n_impl_sizeOf _ (F := F_impl_sizeOf) rfl rfl]
  simp [F_impl_sizeOf, C, e]
theorem c_howMany {m : Nat} {t : List T} {ks : List Int} (hl : ks.length ≤ 5) : call lf n_impl_point_howManyAsked [pD m t ks] = some (.i (kn ks), []) := by
  have l := aN_lt ks
  have p : 2 ^ ks.length ≤ 2 ^ 5 := Nat.pow_le_pow_right (by omega) hl
  have C := c_impl_sizeOf (n := aN ks) (by omega)
  rw [pc_kn hl] at C
  unfold pD pv
  rw [call_k lf n_impl_point_howManyAsked _ (F := F_impl_point_howManyAsked) rfl rfl]
  generalize aN ks = a at *
  simp [F_impl_point_howManyAsked, C]
theorem c_isForced {m : Nat} {t : List T} {ks : List Int} (h1 : tmOk m t = true) (hl : ks.length = m) (hk : ks.all kOk = true) : call lf n_impl_point_isForced [pD m t ks] = some (.b (fcd m t ks), []) := by
  have C := c_impl_valueAmong (tsW t) (lfW ks)
  rw [vaW_fcd h1 hl hk] at C
  unfold pD pv
  rw [call_k lf n_impl_point_isForced _ (F := F_impl_point_isForced) rfl rfl]
  unfold fcd
  simp [F_impl_point_isForced, C]
/-- may it be asked? -/
def caK (m : Nat) (ks : List Int) (a : Int) : Bool := decide (0 ≤ a ∧ a < m) && decide (ks[a.toNat]? = some (-1))
theorem c_canAsk {m : Nat} {t : List T} {ks : List Int} (hm : m ≤ 5) (hl : ks.length = m) (a : Int) : call lf n_impl_point_canAsk [pD m t ks, .i a] = some (.b (caK m ks a), []) := by
  have W := c_impl_isWithin a 0 ((m : Int) - 1)
  have w1 : wr ((m : Int) - 1) = (m : Int) - 1 := wr_id (by omega) (by omega)
  unfold pD pv
  rw [call_k lf n_impl_point_canAsk _ (F := F_impl_point_canAsk) rfl rfl]
  unfold caK
  by_cases h : 0 ≤ a ∧ a < m
  · obtain ⟨k, rfl⟩ := Int.eq_ofNat_of_zero_le h.1
    have e : decide (0 ≤ (k : Int) ∧ (k : Int) ≤ (m : Int) - 1) = true := decide_eq_true ⟨h.1, by omega⟩
    have H := c_impl_hasTest (aN ks) k (by omega)
    have hb := aN_bit (ks := ks) (i := k) (by omega)
    rw [hb] at H
    rw [e] at W
    rw [decide_eq_true h, Int.toNat_natCast]
    generalize aN ks = x at *
    generalize lfW ks = y at *
    simp [F_impl_point_canAsk, w1, W, H]
  · have e : decide (0 ≤ a ∧ a ≤ (m : Int) - 1) = false := decide_eq_false (by omega)
    rw [e] at W
    rw [decide_eq_false h]
    simp [F_impl_point_canAsk, w1, W]
theorem c_answered {m : Nat} {t : List T} {ks : List Int} {k : Nat} (b : Bool) (hl : ks.length ≤ 5) (hk : ks.all kOk = true) (h : ks[k]? = some (-1)) : call lf n_impl_point_answered [pD m t ks, .i k, .i (bI b)] = some (pD m t (ks.set k (bI b)), []) := by
  have hlt := ks_ex h
  have C := c_impl_statesSaying (k := k) (by omega) (bI b)
  have e1 : syI k (bI b) = syW k b := by cases b <;> rfl
  rw [e1] at C
  have sh := shl1 (k := (k : Int)) (by omega) (by omega)
  have nk : ¬ (k : Int) < 0 := by omega
  have l := aN_lt ks
  have p : 2 ^ ks.length ≤ 2 ^ 5 := Nat.pow_le_pow_right (by omega) hl
  have p2 : 2 ^ k ≤ 2 ^ 5 := Nat.pow_le_pow_right (by omega) (by omega)
  have o := orI_nat (a := aN ks) (b := 2 ^ k) (by omega) (by omega)
  rw [← aN_set (b := bI b) (by cases b <;> simp [bI]) h] at o
  have e2 := lfW_set b hk hl h
  unfold pD pv
  rw [call_k lf n_impl_point_answered _ (F := F_impl_point_answered) rfl rfl]
  rw [e2]
  have o' : orI (aN ks) (2 ^ k) = aN (ks.set k (bI b)) := by
    have : ((2 ^ k : Nat) : Int) = 2 ^ k := by simp
    rw [← this]; exact o
  rw [Int.toNat_natCast] at sh
  generalize aN (ks.set k (bI b)) = x at *
  generalize aN ks = y at *
  generalize lfW ks = z at *
  generalize (2 : Int) ^ k = w at *
  simp [F_impl_point_answered, C, sh, nk, o']
theorem c_startOf {m : Nat} {t : List T} (hm : m ≤ 5) (h : tmOk m t = true) : call lf n_impl_startOf [.i m, .sl 0 (t.map e2)] = some (pD m t (non m), []) := by
  have C := c_impl_trueStates h
  unfold pD pv
  rw [aN_non, lfW_non m hm]
  rw [call_k lf n_impl_startOf _ (F := F_impl_startOf) rfl rfl]
  simp [F_impl_startOf, C]
end
section
attribute [-simp] DV.cells
attribute [local simp] sliceD cells_st cells_sl cells_i cells_y cells_b cells_s cells_w
attribute [local simp] lend_e3 adopt_e3 new_e3 al_e3 lt_e3
def e4 (m : Nat) (t : List T) : Option (List Int) → DV
  | some ks => pD m t ks
  | none => pv 0 0 (0#32) (0#32)
end
section
attribute [-simp] DV.cells
attribute [local simp] sliceD cells_st cells_sl cells_i cells_y cells_b cells_s cells_w
attribute [local simp] lend_e3 adopt_e3 new_e3 al_e3 lt_e3
structure Fin (m : Nat) (t : List T) (P : List C3) (L : LT) (pts : Pts) : Prop where
  inv : Inv m t P P.length pts
  start : go3 m t P.length pts (-1) (rot P) (non m)
end
section
def lsB (S : Nat → Int) (ks : List Int) : Nat → Int × Int
  | 0 => (-1, 0)
  | i + 1 => if ks[i]? = some (-1) then (if (lsB S ks i).1 = -1 ∨ S i < (lsB S ks i).2 then ((i : Int), S i) else lsB S ks i) else lsB S ks i
def lsF (m : Nat) (t : List T) (pr : List Int → Nat → Int → Int → Int) : Nat → List Int → Int × Int
  | 0, _ => (-1, 0)
  | f + 1, ks => if fcd m t ks = true then (-1, 0) else lsB (fun k => pr ks k (lsF m t pr f (ks.set k 0)).2 (lsF m t pr f (ks.set k 1)).2) ks m
theorem lsB_lp {S S' : Nat → Int} {ks : List Int} {c : Int} (hc : 1 ≤ c) (h : ∀ k, ks[k]? = some (-1) → 0 ≤ S k ∧ S' k = c * S k) : ∀ i : Nat,
    (lsB S ks i = (-1, 0) ∧ lpB S' ks i = (-1, -1)) ∨ ∃ k : Nat, k < i ∧ ks[k]? = some (-1) ∧ lsB S ks i = ((k : Int), S k) ∧ lpB S' ks i = (S' k, (k : Int))
  | 0 => .inl ⟨rfl, rfl⟩
  | i + 1 => by
    simp only [lsB, lpB]
    by_cases hi : ks[i]? = some (-1)
    · rw [if_pos hi, if_pos hi]
      right
      rcases lsB_lp hc h i with ⟨e1, e2⟩ | ⟨k, k1, k2, e1, e2⟩
      · rw [e1, e2, if_pos (.inl rfl), if_pos (.inl (by show (-1 : Int) < 0; omega))]
        exact ⟨i, by omega, hi, rfl, rfl⟩
      · rw [e1, e2]
        obtain ⟨a0, a1⟩ := h i hi
        obtain ⟨b0, b1⟩ := h k k2
        have bn : 0 ≤ S' k := by rw [b1]; exact Int.mul_nonneg (by omega) b0
        have q : S' i < S' k ↔ S i < S k := by
          rw [a1, b1]
          constructor
          · intro hx
            exact Int.lt_of_mul_lt_mul_left hx (by omega)
          · intro hx
            exact Int.mul_lt_mul_of_pos_left hx (by omega)
        by_cases hx : S i < S k
        · rw [if_pos (.inr hx), if_pos (.inr (q.2 hx))]
          exact ⟨i, by omega, hi, rfl, rfl⟩
        · rw [if_neg (by rintro (h | h); exact absurd h (by show ¬ (k : Int) = -1; omega); exact hx h), if_neg (by rintro (h | h); exact absurd h (by show ¬ S' k < 0; omega); exact hx (q.1 h))]
          exact ⟨k, by omega, k2, rfl, rfl⟩
    · rw [if_neg hi, if_neg hi]
      rcases lsB_lp hc h i with e | ⟨k, k1, k2, e1, e2⟩
      · exact .inl e
      · exact .inr ⟨k, by omega, k2, e1, e2⟩
/-- the weight of what is known -/
def kp : List T → List Int → Int
  | t :: r, k :: ks => (if k = -1 then 1 else if k = 1 then t.2 else 6 - t.2) * kp r ks
  | _, _ => 1
theorem kp_wk : ∀ {us : List T} {ks : List Int}, ks.length = us.length → wk us ks = kp us ks * 6 ^ uk ks
  | [], [], _ => rfl
  | [], _ :: _, h => by simp at h
  | _ :: _, [], h => by simp at h
  | t :: us, k :: ks, h => by
    have ih := kp_wk (us := us) (ks := ks) (by simpa using h)
    show (if k = -1 then 6 else if k = 1 then t.2 else 6 - t.2) * wk us ks = (if k = -1 then 1 else if k = 1 then t.2 else 6 - t.2) * kp us ks * 6 ^ uk (k :: ks)
    rw [ih]
    by_cases e : k = -1
    · have : uk (k :: ks) = uk ks + 1 := by simp only [uk]; rw [if_pos e]; omega
      rw [if_pos e, if_pos e, this, Int.pow_succ, Int.one_mul, Int.mul_comm 6, Int.mul_assoc]
    · have : uk (k :: ks) = uk ks := by simp only [uk]; rw [if_neg e]; omega
      rw [if_neg e, if_neg e, this, Int.mul_assoc]
theorem kp_pos : ∀ {us : List T} {ks : List Int}, us.all tOk = true → 1 ≤ kp us ks
  | [], ks, _ => by simp [kp]
  | t :: us, [], _ => by simp [kp]
  | t :: us, k :: ks, h => by
    simp only [List.all_cons, Bool.and_eq_true] at h
    have ih := kp_pos (us := us) (ks := ks) h.2
    have ht := (tOk_iff.1 h.1).2
    have c : 1 ≤ (if k = -1 then 1 else if k = 1 then t.2 else 6 - t.2) := by
      split
      · omega
      · split <;> omega
    have := Int.mul_le_mul c ih (by omega) (by omega)
    simpa [kp] using this
theorem kp_put : ∀ {us : List T} {ks : List Int} {k : Nat}, ks.length = us.length → ks[k]? = some (-1) →
    kp us (ks.set k 0) = kp us ks * (6 - (us.getD k (0, 0)).2) ∧ kp us (ks.set k 1) = kp us ks * (us.getD k (0, 0)).2
  | _, [], k, _, h => by simp at h
  | [], x :: r, k, hl, h => by simp at hl
  | t :: us, x :: r, 0, hl, h => by
    simp only [List.getElem?_cons_zero, Option.some.injEq] at h
    subst h
    have e : kp (t :: us) (-1 :: r) = kp us r := by simp [kp]
    rw [e]
    refine ⟨?_, ?_⟩
    · show (6 - t.2) * kp us r = _
      rw [Int.mul_comm]; rfl
    · show t.2 * kp us r = _
      rw [Int.mul_comm]; rfl
  | t :: us, x :: r, k + 1, hl, h => by
    simp only [List.getElem?_cons_succ] at h
    obtain ⟨h2, h3⟩ := kp_put (us := us) (by simpa using hl) h
    have e : ∀ ks : List Int, kp (t :: us) (x :: ks) = (if x = -1 then 1 else if x = 1 then t.2 else 6 - t.2) * kp us ks := fun _ => rfl
    generalize hc : (if x = -1 then 1 else if x = 1 then t.2 else 6 - t.2) = c at e
    have g : (t :: us).getD (k + 1) (0, 0) = us.getD k (0, 0) := by simp [List.getD]
    rw [g]
    refine ⟨?_, ?_⟩
    · rw [List.set_cons_succ, e, e, h2, Int.mul_assoc]
    · rw [List.set_cons_succ, e, e, h3, Int.mul_assoc]
theorem kp_non : ∀ us : List T, kp us (non us.length) = 1
  | [] => rfl
  | t :: us => by
    show (if (-1 : Int) = -1 then 1 else _) * kp us (non us.length) = 1
    rw [if_pos rfl, kp_non us]
    rfl
/-- what asking costs on average, in parts -/
def avQ (us : List T) (ks : List Int) (k : Nat) (no yes : Int) : Int := cA us k * 6 ^ uk ks + (6 - (us.getD k (0, 0)).2) * no + (us.getD k (0, 0)).2 * yes
theorem lsF_bPl {us t : List T} (h : us.all tOk = true) : ∀ (f : Nat) (ks : List Int), ks.length = us.length → ks.all kOk = true → uk ks ≤ f →
    0 ≤ (lsF us.length t (avQ us) f ks).2 ∧ kp us ks * (lsF us.length t (avQ us) f ks).2 = (bPl us t f ks).1 ∧ (lsF us.length t (avQ us) f ks).1 = (bPl us t f ks).2
  | 0, ks, hl, hk, hu => by
    simp only [lsF, bPl]
    exact ⟨Int.le_refl _, by simp, by simp⟩
  | f + 1, ks, hl, hk, hu => by
    simp only [lsF, bPl]
    cases hc : fcd us.length t ks with
    | true => rw [if_pos rfl, if_pos rfl]; exact ⟨Int.le_refl _, by simp, rfl⟩
    | false =>
      rw [if_neg (by simp), if_neg (by simp)]
      have key : ∀ k, ks[k]? = some (-1) → 0 ≤ avQ us ks k (lsF us.length t (avQ us) f (ks.set k 0)).2 (lsF us.length t (avQ us) f (ks.set k 1)).2 ∧
          wk us ks * cA us k + (bPl us t f (ks.set k 0)).1 + (bPl us t f (ks.set k 1)).1 = kp us ks * avQ us ks k (lsF us.length t (avQ us) f (ks.set k 0)).2 (lsF us.length t (avQ us) f (ks.set k 1)).2 := fun k hkk => by
        have u := fun (b : Bool) => uk_set (b := bI b) (by cases b <;> simp [bI]) hkk
        have u0 := u false
        have u1 := u true
        rw [bI_0] at u0
        rw [bI_1] at u1
        obtain ⟨a1, a2, _⟩ := lsF_bPl h (t := t) f (ks.set k 0) (by simpa using hl) (kOk_set hk k false) (by omega)
        obtain ⟨b1, b2, _⟩ := lsF_bPl h (t := t) f (ks.set k 1) (by simpa using hl) (kOk_set hk k true) (by omega)
        obtain ⟨p0, p1⟩ := kp_put hl hkk
        rw [← a2, ← b2, p0, p1, kp_wk hl]
        have kl := ks_ex hkk
        have tq : 1 ≤ (us.getD k (0, 0)).2 ∧ (us.getD k (0, 0)).2 ≤ 5 := by
          have hlt : k < us.length := by omega
          have e : us.getD k (0, 0) = us[k] := by simp [List.getD, hlt]
          have := tOk_iff.1 (List.all_eq_true.1 h us[k] (List.getElem_mem hlt))
          rw [← e] at this
          exact this.2
        have c0 := cA_nn' h k
        have pp : (0 : Int) ≤ 6 ^ uk ks := Int.le_of_lt (Int.pow_pos (by omega))
        generalize (lsF us.length t (avQ us) f (ks.set k 0)).2 = x at *
        generalize (lsF us.length t (avQ us) f (ks.set k 1)).2 = y at *
        unfold avQ
        generalize (us.getD k (0, 0)).2 = q at *
        generalize cA us k = c at *
        generalize (6 : Int) ^ uk ks = w at *
        generalize kp us ks = K at *
        refine ⟨?_, ?_⟩
        · have m1 := Int.mul_nonneg c0 pp
          have m2 := Int.mul_nonneg (show (0 : Int) ≤ 6 - q by omega) a1
          have m3 := Int.mul_nonneg (show (0 : Int) ≤ q by omega) b1
          omega
        · rw [Int.mul_add, Int.mul_add, Int.mul_assoc K (6 - q) x, Int.mul_assoc K q y, Int.mul_assoc K w c, Int.mul_comm w c]
      rcases lsB_lp (kp_pos (ks := ks) h) key us.length with ⟨e1, e2⟩ | ⟨k, k1, k2, e1, e2⟩
      · exfalso
        have up : 0 < uk ks := by
          apply Nat.pos_of_ne_zero
          intro e
          rw [fcd_all hl hk e] at hc
          cases hc
        have B := bPl_ok (t := t) h (f + 1) ks hl hk hu
        obtain ⟨k, k1, k2, _⟩ := B.go hc
        simp only [bPl] at k2
        rw [if_neg (by rw [hc]; simp), e2] at k2
        simp only at k2
        omega
      · rw [e1, e2]
        exact ⟨(key k k2).1, (key k k2).2.symm, rfl⟩
theorem lsF_up {us t : List T} (h : us.all tOk = true) (hm : us.length ≤ 5) {f : Nat} {ks : List Int} (hl : ks.length = us.length) (hk : ks.all kOk = true) (hu : uk ks ≤ f) (hf : f ≤ 5) : (lsF us.length t (avQ us) f ks).2 ≤ 349920 := by
  obtain ⟨a1, a2, _⟩ := lsF_bPl h (t := t) f ks hl hk hu
  have b := bPl_up h (t := t) f ks hl hk hu
  have kpp := kp_pos (ks := ks) h
  rw [← a2, kp_wk hl] at b
  have ul := uk_le ks
  have p := p6 (n := uk ks) (by omega)
  have : (lsF us.length t (avQ us) f ks).2 ≤ 9 * f * 6 ^ uk ks := by
    refine Int.le_of_mul_le_mul_left (a := kp us ks) ?_ (by omega)
    rw [show kp us ks * (9 * (f : Int) * 6 ^ uk ks) = 9 * f * (kp us ks * 6 ^ uk ks) by rw [Int.mul_left_comm]]
    exact b
  have q : 9 * (f : Int) * 6 ^ uk ks ≤ 45 * 7776 := Int.mul_le_mul (by omega) p.2 (by omega) (by omega)
  omega
end
section
attribute [-simp] DV.cells
attribute [local simp] sliceD cells_st cells_sl cells_i cells_y cells_b cells_s cells_w
theorem c_impl_rowOk (row : Int) : call lf n_impl_rowOk [.i row] = some (.b (rwOk row), []) := by
  rw [call_k lf n_impl_rowOk _ (F := F_impl_rowOk) rfl rfl]
  have e : rwOk row = (row == 0 || row == 1) := by
    unfold rwOk
    by_cases h0 : row = 0
    · subst h0; rfl
    · by_cases h1 : row = 1
      · subst h1; rfl
      · have n0 : (row == 0) = false := beq_eq_false_iff_ne.2 h0
        have n1 : (row == 1) = false := beq_eq_false_iff_ne.2 h1
        rw [n0, n1]
        exact decide_eq_false (by omega)
  rw [e]
  cases h0 : (row == 0) with
  | true => simp [F_impl_rowOk, h0]
  | false => simp [F_impl_rowOk, h0]
theorem c_impl_endChance (c q row : Int) (hq : 1 ≤ q ∧ q ≤ 5) : call lf n_impl_endChance [.st [.i c, .i q], .i row] = some (.i (if row = 0 then 6 - q else q), []) := by
  have w1 : wr (6 - q) = 6 - q := wr_id (by omega) (by omega)
  rw [call_k lf n_impl_endChance _ (F := F_impl_endChance) rfl rfl]
  by_cases h : row = 0
  · simp [F_impl_endChance, h, w1]
  · have h' : (row == 0) = false := by simp [h]
    simp [F_impl_endChance, h, h']
theorem c_impl_wholeOf {n : Nat} (hn : n ≤ 5) : call lf n_impl_wholeOf [.i n] = some (.i (6 ^ n), []) := by
  rw [call_k lf n_impl_wholeOf _ (F := F_impl_wholeOf) rfl rfl]
  have L := loop_count (lf := lf) (L := F_impl_wholeOf_L0) n (fun i => ⟨[(3, .i (6 ^ i)), (4, .i n), (5, .i i)], []⟩) (x := .exit 0) (R := ⟨[(3, .i (6 ^ n)), (4, .i n), (5, .i n)], []⟩) (fun i hi => by
    have p := p6 (n := i) (by omega)
    have w1 : wr ((i : Int) + 1) = i + 1 := wr_id (by omega) (by omega)
    have w2 : wr ((6 : Int) ^ i * 6) = 6 ^ i * 6 := wr_id (by omega) (by omega)
    simp [F_impl_wholeOf_L0, hi, w1, w2, Int.pow_succ]) (by simp [F_impl_wholeOf_L0]) (by simp)
  have L' : ex lf F_impl_wholeOf_W0 ⟨[(3, .i 1), (4, .i n), (5, .i 0)], []⟩ = some (.exit 0, ⟨[(3, .i (6 ^ n)), (4, .i n), (5, .i n)], []⟩) := L
  simp [F_impl_wholeOf, L']
set_option maxHeartbeats 4000000 in
theorem eA_calli {us : List T} (h : us.all tOk = true) {row a : Int} (h0 : 0 ≤ a) (h1 : a < us.length) : ∃ c q : Int, atI (us.map e2) a = some (.st [.i c, .i q]) ∧ c = cA us a.toNat ∧ call lf n_impl_endChance [.st [.i c, .i q], .i row] = some (.i (eA us row a.toNat), []) := by
  obtain ⟨c, q, c1, c2, c3⟩ := cA_at (us := us) h0 h1
  refine ⟨c, q, c1, c2, ?_⟩
  have e : us.getD a.toNat (0, 0) = us[a.toNat] := by simp [List.getD, show a.toNat < us.length by omega]
  have tq := tOk_iff.1 (List.all_eq_true.1 h us[a.toNat] (List.getElem_mem (by omega)))
  rw [← e, c3] at tq
  rw [c_impl_endChance c q row tq.2]
  unfold eA
  rw [c3]
set_option maxHeartbeats 4000000 in
theorem l_impl_RowAverage {us : List T} (h : tsOk us = true) (row : Int) (os : List Int) (ho5 : os.length ≤ 5) (rest : List Int) : ∀ (k : Nat) (on sum : Int) (so : Nat), orS us.length so rest = true → 0 ≤ on → on ≤ 6 ^ k → 0 ≤ sum → sum ≤ 70000 * k → k + rest.length = os.length → (os.map DV.i).drop k = rest.map .i →
    ∃ on' : Int, ex lf F_impl_RowAverage_W0 ⟨[(0, .sl 0 (us.map e2)), (2, .i row), (8, .i sum), (9, .i (on * 6 ^ rest.length)), (30, .sl 0 (os.map .i)), (31, .i os.length), (32, .i k)], []⟩ =
      some (.exit 0, ⟨[(0, .sl 0 (us.map e2)), (2, .i row), (8, .i (sum + rA us row on rest)), (9, .i on'), (30, .sl 0 (os.map .i)), (31, .i os.length), (32, .i os.length)], []⟩) := by
  have h' := tsOk_iff.1 h
  induction rest with
  | nil =>
    intro k on sum so ho n0 n1 s0 s1 hn hd
    have hk : k = os.length := by simpa using hn
    refine ⟨on * 6 ^ ([] : List Int).length, ?_⟩
    rw [w_impl_RowAverage_0]
    simp [F_impl_RowAverage_L0, hk, rA]
  | cons a rest ih =>
    intro k on sum so ho n0 n1 s0 s1 hn hd
    obtain ⟨o1, o2, o3⟩ := orS_cons.1 ho
    have hn2 : (k : Int) + ((DV.i a :: rest.map DV.i).length : Nat) = os.length := by simp at hn ⊢; omega
    obtain ⟨q1, q2, q3, q4, q5, q6⟩ := stp (es := os.map DV.i) (by omega) hn2 (by omega) (by simpa using hd)
    have kl : k < os.length := by omega
    obtain ⟨c, q, x1, x2, x3⟩ := eA_calli h'.2 (row := row) o1.1 o1.2
    have cn := cA_nn h'.2 a.toNat
    have ea := eA_bd h'.2 (row := row) (a := a.toNat) (by omega)
    have hl : rest.length + 1 = os.length - k := by simp at hn; omega
    have pb := p6le (i := k) (j := rest.length + 1) (by omega) n0 n1
    have pk := p6 (n := k) (by omega)
    have pr := p6 (n := rest.length) (by omega)
    have m2 : 0 ≤ c * (on * 6 ^ (rest.length + 1)) ∧ c * (on * 6 ^ (rest.length + 1)) ≤ 9 * 7776 := by
      exact ⟨Int.mul_nonneg (by omega) pb.1, Int.mul_le_mul (by omega) pb.2 pb.1 (by omega)⟩
    have w3 : wr (c * (on * 6 ^ (rest.length + 1))) = c * (on * 6 ^ (rest.length + 1)) := wr_id (by omega) (by omega)
    have w4 : wr (sum + c * (on * 6 ^ (rest.length + 1))) = sum + c * (on * 6 ^ (rest.length + 1)) := wr_id (by omega) (by omega)
    have w5 : wr (6 - eA us row a.toNat) = 6 - eA us row a.toNat := wr_id (by omega) (by omega)
    have dv : (on * 6 ^ (rest.length + 1)).tdiv 6 = on * 6 ^ rest.length := by
      rw [Int.pow_succ, ← Int.mul_assoc]
      exact Int.mul_tdiv_cancel _ (by omega)
    have pb0 : 0 ≤ on * 6 ^ rest.length ∧ on * 6 ^ rest.length ≤ 7776 := p6le (i := k) (j := rest.length) (by omega) n0 n1
    have w7 : wr (on * 6 ^ rest.length) = on * 6 ^ rest.length := wr_id (by omega) (by omega)
    have m3 : 0 ≤ on * (6 - eA us row a.toNat) ∧ on * (6 - eA us row a.toNat) ≤ 6 ^ (k + 1) := by
      refine ⟨Int.mul_nonneg n0 (by omega), ?_⟩
      rw [Int.pow_succ]
      exact Int.mul_le_mul n1 (by omega) (by omega) (by omega)
    have m4 : 0 ≤ on * 6 ^ rest.length * (6 - eA us row a.toNat) ∧ on * 6 ^ rest.length * (6 - eA us row a.toNat) ≤ 7776 * 6 :=
      ⟨Int.mul_nonneg pb0.1 (by omega), Int.mul_le_mul pb0.2 (by omega) (by omega) (by omega)⟩
    have w8 : wr (on * 6 ^ rest.length * (6 - eA us row a.toNat)) = on * (6 - eA us row a.toNat) * 6 ^ rest.length := by
      rw [wr_id (by omega) (by omega), Int.mul_assoc, Int.mul_assoc, Int.mul_comm (6 ^ rest.length)]
    have e : sum + rA us row on (a :: rest) = sum + c * (on * 6 ^ (rest.length + 1)) + rA us row (on * (6 - eA us row a.toNat)) rest := by simp only [rA, x2, Int.mul_assoc]; omega
    obtain ⟨on', I⟩ := ih (k + 1) (on * (6 - eA us row a.toNat)) (sum + c * (on * 6 ^ (rest.length + 1))) _ o3 m3.1 m3.2 (by omega) (by omega) (by simp at hn; omega) (by simpa using q6)
    refine ⟨on', ?_⟩
    have q3' : wr ((k : Int) + 1) = ((k + 1 : Nat) : Int) := by rw [q3]; omega
    have o11 := o1.1
    have o12 := o1.2
    rw [w_impl_RowAverage_0, e]
    simp only [List.length_cons] at *
    generalize on * (6 - eA us row a.toNat) * 6 ^ rest.length = G at *
    generalize on * 6 ^ (rest.length + 1) = P at *
    generalize on * 6 ^ rest.length = Q at *
    generalize rA us row _ rest = Z at *
    generalize eA us row a.toNat = E at *
    simp [F_impl_RowAverage_L0, kl, q1, q2, q3', o11, o12, x1, x3, w3, w4, w5, dv, w7, w8, I, -Int.natCast_add]
theorem c_impl_RowAverage (us : List T) (os : List Int) (row : Int) (ha : (us.length : Int) < 1099511627776) (hc : (os.length : Int) < 1099511627776) :
    call lf n_impl_RowAverage [.sl 0 (us.map e2), .sl 0 (os.map .i), .i row] = some (.i (raOf us os row), []) := by
  rw [call_k lf n_impl_RowAverage _ (F := F_impl_RowAverage) rfl rfl]
  have C1 := c_impl_TestsOk us ha
  have C3 := c_impl_OrderOk us.length os hc
  have C4 := c_impl_rowOk row
  unfold raOf raOk
  cases h1 : tsOk us with
  | false => rw [h1] at C1; simp [F_impl_RowAverage, C1]
  | true =>
    rw [h1] at C1
    cases h3 : orOk us.length os with
    | false => rw [h3] at C3; simp [F_impl_RowAverage, C1, C3]
    | true =>
      rw [h3] at C3
      cases h4 : rwOk row with
      | false =>
        rw [h4] at C4
        simp [F_impl_RowAverage, C1, C3, C4]
      | true =>
        rw [h4] at C4
        obtain ⟨g1, g2, g3⟩ := orOk_iff.1 h3
        have W := c_impl_wholeOf (n := us.length) (by omega)
        obtain ⟨on', L⟩ := l_impl_RowAverage h1 row os (by omega) os 0 1 0 0 g3 (by omega) (by omega) (by omega) (by omega) (by omega) (by simp)
        have el : os.length = us.length := by omega
        simp only [Int.natCast_zero, Int.zero_add, Int.one_mul, el] at L
        simp [F_impl_RowAverage, C1, C3, C4, W, el, L]
end
section
attribute [-simp] DV.cells
attribute [local simp] sliceD cells_st cells_sl cells_i cells_y cells_b cells_s cells_w
attribute [local simp] lend_e3 adopt_e3 new_e3 al_e3 lt_e3
theorem c_averageAsking {c q no yes : Int} {n : Nat} (hn : n ≤ 5) (hc : 1 ≤ c ∧ c ≤ 9) (hq : 1 ≤ q ∧ q ≤ 5) (h0 : 0 ≤ no ∧ no ≤ 400000) (h1 : 0 ≤ yes ∧ yes ≤ 400000) :
    call lf n_impl_averageAsking [.st [.i c, .i q], .i n, .i no, .i yes] = some (.i (c * 6 ^ n + (6 - q) * no + q * yes), []) := by
  have W := c_impl_wholeOf hn
  have p := p6 hn
  have b1 : c * 6 ^ n ≤ 9 * 7776 := Int.mul_le_mul hc.2 p.2 (by omega) (by omega)
  have b1' : 0 ≤ c * 6 ^ n := Int.mul_nonneg (by omega) (by omega)
  have b2 : (6 - q) * no ≤ 5 * 400000 := Int.mul_le_mul (by omega) h0.2 h0.1 (by omega)
  have b2' : 0 ≤ (6 - q) * no := Int.mul_nonneg (by omega) h0.1
  have b3 : q * yes ≤ 5 * 400000 := Int.mul_le_mul (by omega) h1.2 h1.1 (by omega)
  have b3' : 0 ≤ q * yes := Int.mul_nonneg (by omega) h1.1
  have w2 : wr (c * 6 ^ n) = c * 6 ^ n := wr_id (by omega) (by omega)
  have w3 : wr (6 - q) = 6 - q := wr_id (by omega) (by omega)
  have w4 : wr ((6 - q) * no) = (6 - q) * no := wr_id (by omega) (by omega)
  have w5 : wr (c * 6 ^ n + (6 - q) * no) = c * 6 ^ n + (6 - q) * no := wr_id (by omega) (by omega)
  have w6 : wr (q * yes) = q * yes := wr_id (by omega) (by omega)
  have w7 : wr (c * 6 ^ n + (6 - q) * no + q * yes) = c * 6 ^ n + (6 - q) * no + q * yes := wr_id (by omega) (by omega)
  rw [call_k lf n_impl_averageAsking _ (F := F_impl_averageAsking) rfl rfl]
  generalize (6 : Int) ^ n = z at *
  simp [F_impl_averageAsking, W, w2, w3, w4, w5, w6, w7]
set_option maxHeartbeats 4000000 in
theorem c_averagesOf_1 {us t : List T} {ks : List Int} (hu : us.all tOk = true) (hm : us.length ≤ 5) (hl : ks.length = us.length) {k : Nat} (hk : k < us.length) {no yes : Int} (h0 : 0 ≤ no ∧ no ≤ 400000) (h1 : 0 ≤ yes ∧ yes ≤ 400000) :
    call lf n_impl_averagesOf_1 [pD us.length t ks, .i k, .i no, .i yes, .adr (.sl 0 (us.map e2))] = some (.i (avQ us ks k no yes), []) := by
  obtain ⟨c, q, c1, c2, c3⟩ := cA_at (us := us) (a := (k : Int)) (by omega) (by omega)
  rw [Int.toNat_natCast] at c2 c3
  have tq : tOk (c, q) = true := by
    have e : us.getD k (0, 0) = us[k] := by simp [List.getD, hk]
    rw [← c3, e]
    exact List.all_eq_true.1 hu us[k] (List.getElem_mem hk)
  have tq := tOk_iff.1 tq
  simp only at tq
  have H := c_howMany (m := us.length) (t := t) (ks := ks) (by omega)
  have kk := kn_uk ks
  have A := c_averageAsking (n := uk ks) (by omega) tq.1 tq.2 h0 h1
  have w1 : wr ((us.length : Int) - kn ks) = (uk ks : Int) := by rw [wr_id (by omega) (by omega)]; omega
  unfold avQ
  rw [c3, ← c2]
  simp only
  have ul : (us.map e2).length = us.length := by simp
  have kl : (k : Int) < us.length := by omega
  unfold pD pv at *
  rw [call_k lf n_impl_averagesOf_1 _ (F := F_impl_averagesOf_1) rfl rfl]
  generalize us.map e2 = U at *
  generalize c * 6 ^ uk ks + (6 - q) * no + q * yes = z at *
  generalize uk ks = u at *
  generalize kn ks = v at *
  generalize aN ks = a at *
  simp [F_impl_averagesOf_1, c1, ul, kl, H, A, w1]
theorem c_averagesOf (us : List T) : call lf n_impl_averagesOf [.sl 0 (us.map e2)] = some (.fn n_impl_averagesOf_1 [.adr (.sl 0 (us.map e2))], []) := by
  rw [call_k lf n_impl_averagesOf _ (F := F_impl_averagesOf) rfl rfl]
  simp [F_impl_averagesOf]
def stLsA (us t : List T) (ks : List Int) (b : Int × Int) (i : Nat) : LS :=
  ⟨[(1, .fn n_impl_averagesOf_1 [.adr (.sl 0 (us.map e2))]), (2, .oad 1056 1 0 0), (6, .i b.1), (7, .i b.2), (19, .i us.length), (20, .i i)], [(1056, [pD us.length t ks])]⟩
set_option maxHeartbeats 8000000 in
theorem c_leastFromA {us t : List T} (hu : us.all tOk = true) (hm : 1 ≤ us.length ∧ us.length ≤ 5) (ht : tmOk us.length t = true) : ∀ (f : Nat) (ks : List Int), f ≤ 5 → ks.length = us.length → ks.all kOk = true → uk ks ≤ f →
    call lf n_impl_leastFrom [pD us.length t ks, .fn n_impl_averagesOf_1 [.adr (.sl 0 (us.map e2))]] = some (.tup [.i (lsF us.length t (avQ us) f ks).1, .i (lsF us.length t (avQ us) f ks).2], [])
  | f, ks, hf5, hl, hk, hf => by
    have F := c_isForced ht hl hk
    cases hc : fcd us.length t ks with
    | true =>
      have e : lsF us.length t (avQ us) f ks = (-1, 0) := by
        cases f with
        | zero => rfl
        | succ f => simp only [lsF]; rw [if_pos hc]
      rw [e]
      rw [hc] at F
      unfold pD pv at *
      rw [call_k lf n_impl_leastFrom _ (F := F_impl_leastFrom) rfl rfl]
      simp [F_impl_leastFrom, F]
    | false =>
      cases f with
      | zero =>
        rw [fcd_all hl hk (by omega)] at hc
        cases hc
      | succ f =>
        rw [hc] at F
        have e : lsF us.length t (avQ us) (f + 1) ks = lsB (fun k => (avQ us) ks k (lsF us.length t (avQ us) f (ks.set k 0)).2 (lsF us.length t (avQ us) f (ks.set k 1)).2) ks us.length := by
          simp only [lsF]
          rw [if_neg (by rw [hc]; simp)]
        rw [e]
        have us' := fun (k : Nat) (hkk : ks[k]? = some (-1)) (b : Bool) => uk_set (b := bI b) (by cases b <;> simp [bI]) hkk
        have BD : ∀ (k : Nat) (b : Bool), ks[k]? = some (-1) → 0 ≤ (lsF us.length t (avQ us) f (ks.set k (bI b))).2 ∧ (lsF us.length t (avQ us) f (ks.set k (bI b))).2 ≤ 400000 := fun k b hkk => by
          have := us' k hkk b
          exact ⟨(lsF_bPl hu f (ks.set k (bI b)) (by simpa using hl) (kOk_set hk k b) (by omega)).1, by have := lsF_up (t := t) hu hm.2 (f := f) (ks := ks.set k (bI b)) (by simpa using hl) (kOk_set hk k b) (by omega) (by omega); omega⟩
        generalize hS : (fun k => (avQ us) ks k (lsF us.length t (avQ us) f (ks.set k 0)).2 (lsF us.length t (avQ us) f (ks.set k 1)).2) = S
        have LP := loop_count (lf := lf) (L := F_impl_leastFrom_L0) us.length (fun i => stLsA us t ks (lsB S ks i) i) (x := .exit 0) (R := stLsA us t ks (lsB S ks us.length) us.length) (fun i hi => by
          have C := c_canAsk (m := us.length) (t := t) (ks := ks) (by omega) hl (i : Int)
          have w1 : wr ((i : Int) + 1) = ((i + 1 : Nat) : Int) := by rw [wr_id (by omega) (by omega)]; omega
          have hi' : (i : Int) < (us.length : Int) := by omega
          have eb : lsB S ks (i + 1) = if ks[i]? = some (-1) then (if (lsB S ks i).1 = -1 ∨ S i < (lsB S ks i).2 then ((i : Int), S i) else lsB S ks i) else lsB S ks i := rfl
          have ca : caK us.length ks (i : Int) = decide (ks[i]? = some (-1)) := by
            unfold caK
            rw [decide_eq_true (show 0 ≤ (i : Int) ∧ (i : Int) < (us.length : Int) by omega), Int.toNat_natCast, Bool.true_and]
          rw [ca] at C
          rw [eb]
          by_cases hkk : ks[i]? = some (-1)
          · rw [if_pos hkk]
            rw [decide_eq_true hkk] at C
            have B0 := c_answered (m := us.length) (t := t) false (by omega) hk hkk
            have B1 := c_answered (m := us.length) (t := t) true (by omega) hk hkk
            have u0 := us' i hkk false
            have u1 := us' i hkk true
            have G0 := c_leastFromA hu hm ht f (ks.set i (bI false)) (by omega) (by simpa using hl) (kOk_set hk i false) (by omega)
            have G1 := c_leastFromA hu hm ht f (ks.set i (bI true)) (by omega) (by simpa using hl) (kOk_set hk i true) (by omega)
            have D0 := BD i false hkk
            have D1 := BD i true hkk
            rw [bI_0] at B0 G0 D0
            rw [bI_1] at B1 G1 D1
            have Pr := c_averagesOf_1 (us := us) (t := t) (ks := ks) hu hm.2 hl (k := i) hi (no := (lsF us.length t (avQ us) f (ks.set i 0)).2) (yes := (lsF us.length t (avQ us) f (ks.set i 1)).2) D0 D1
            have eS : S i = (avQ us) ks i (lsF us.length t (avQ us) f (ks.set i 0)).2 (lsF us.length t (avQ us) f (ks.set i 1)).2 := by rw [← hS]
            rw [← eS] at Pr
            clear BD hS eb
            generalize lsF us.length t (avQ us) f (ks.set i 0) = x at *
            generalize lsF us.length t (avQ us) f (ks.set i 1) = y at *
            obtain ⟨x1, x2⟩ := x
            obtain ⟨y1, y2⟩ := y
            generalize lsB S ks i = b at *
            obtain ⟨b1, b2⟩ := b
            generalize S i = s at *
            simp only at *
            unfold stLsA
            unfold pD pv at *
            by_cases hb : b1 = -1
            · rw [if_pos (.inl hb)]
              have hb' : (b1 == -1) = true := by simpa using hb
              subst hb
              simp [F_impl_leastFrom_L0, hi, hi', C, B0, B1, G0, G1, Pr, w1, -Int.natCast_add]
            · have hb' : (b1 == -1) = false := beq_eq_false_iff_ne.2 hb
              by_cases hlt : s < b2
              · rw [if_pos (.inr hlt)]
                simp [F_impl_leastFrom_L0, hi, hi', C, B0, B1, G0, G1, Pr, w1, hb', hlt, -Int.natCast_add]
              · rw [if_neg (by rintro (h | h); exact hb h; exact hlt h)]
                simp [F_impl_leastFrom_L0, hi, hi', C, B0, B1, G0, G1, Pr, w1, hb', hlt, -Int.natCast_add]
          · rw [if_neg hkk]
            rw [decide_eq_false hkk] at C
            clear BD hS eb
            generalize lsB S ks i = b at *
            unfold stLsA
            unfold pD pv at *
            simp [F_impl_leastFrom_L0, hi, hi', C, w1, -Int.natCast_add]) (by
          unfold stLsA
          unfold pD pv at *
          simp [F_impl_leastFrom_L0]) (by simp)
        have z : lsB S ks 0 = (-1, 0) := rfl
        rw [z] at LP
        unfold stLsA at LP
        simp only [Int.natCast_zero] at LP
        change ex lf F_impl_leastFrom_W0 _ = _ at LP
        clear BD hS
        unfold pD pv at *
        rw [call_k lf n_impl_leastFrom _ (F := F_impl_leastFrom) rfl rfl]
        generalize lsB S ks us.length = b at *
        simp [F_impl_leastFrom, F, LP]
end
section
attribute [-simp] DV.cells
attribute [local simp] sliceD cells_st cells_sl cells_i cells_y cells_b cells_s cells_w
attribute [local simp] lend_e3 adopt_e3 new_e3 al_e3 lt_e3
theorem lsF_root {us t : List T} (h : us.all tOk = true) : (lsF us.length t (avQ us) us.length (non us.length)).2 = bA us t := by
  obtain ⟨_, a2, _⟩ := lsF_bPl h (t := t) us.length (non us.length) (non_len _) (non_all _) (by rw [uk_non]; exact Nat.le_refl _)
  rw [kp_non, Int.one_mul] at a2
  exact a2
set_option maxHeartbeats 4000000 in
theorem c_impl_BestAverage (us t : List T) (ha : (us.length : Int) < 1099511627776) (hb : (t.length : Int) < 1099511627776) : call lf n_impl_BestAverage [.sl 0 (us.map e2), .sl 0 (t.map e2)] = some (.i (baOf us t), []) := by
  have C1 := c_impl_TestsOk us ha
  have C2 := c_impl_TermOk us.length t hb
  have ul : (us.map e2).length = us.length := by simp
  rw [call_k lf n_impl_BestAverage _ (F := F_impl_BestAverage) rfl rfl]
  unfold baOf
  cases h1 : tsOk us with
  | false => rw [h1] at C1; simp [F_impl_BestAverage, C1]
  | true =>
    rw [h1] at C1
    have h' := tsOk_iff.1 h1
    cases h2 : tmOk us.length t with
    | false => rw [h2] at C2; simp [F_impl_BestAverage, C1, C2]
    | true =>
      rw [h2] at C2
      have C3 := c_startOf (t := t) (by omega) h2
      have C4 := c_averagesOf us
      have C5 := c_leastFromA h'.2 (by omega) h2 us.length (non us.length) (by omega) (non_len _) (non_all _) (by rw [uk_non]; exact Nat.le_refl _)
      rw [lsF_root h'.2] at C5
      generalize (lsF us.length t (avQ us) us.length (non us.length)).1 = x at *
      unfold pD pv at *
      simp [F_impl_BestAverage, C1, C2, C3, C4, C5]
end
section
/-- what it costs, the parts in which it ends all, and its whole -/
abbrev I3 := Int × Int × Int
def gM : List I3 → Int
  | [] => 1
  | x :: r => x.2.2 * gM r
def gD : List I3 → Int
  | [] => 0
  | x :: r => x.1 * gM r + (x.2.2 - x.2.1) * gD r
def iOk (x : I3) : Prop := 0 ≤ x.1 ∧ 0 < x.2.1 ∧ x.2.1 ≤ x.2.2
def gLe (a b : I3) : Bool := decide (a.1 * b.2.1 ≤ b.1 * a.2.1)
theorem gM_pos : ∀ {l : List I3}, (∀ x ∈ l, iOk x) → 0 < gM l
  | [], _ => by simp [gM]
  | x :: r, h => by
    have hx := h x List.mem_cons_self
    have := gM_pos (l := r) (fun y hy => h y (List.mem_cons_of_mem _ hy))
    exact Int.mul_pos (by unfold iOk at hx; omega) this
theorem gM_perm {p q : List I3} (h : p.Perm q) : gM p = gM q := by
  induction h with
  | nil => rfl
  | cons x _ ih => simp only [gM]; rw [ih]
  | swap x y l => simp only [gM]; rw [Int.mul_left_comm]
  | trans _ _ a b => exact a.trans b
theorem gD_nn : ∀ {l : List I3}, (∀ x ∈ l, iOk x) → 0 ≤ gD l
  | [], _ => by simp [gD]
  | x :: r, h => by
    obtain ⟨h1, h2, h3⟩ := h x List.mem_cons_self
    have hr : ∀ y ∈ r, iOk y := fun y hy => h y (List.mem_cons_of_mem _ hy)
    have a := Int.mul_nonneg h1 (Int.le_of_lt (gM_pos hr))
    have b := Int.mul_nonneg (show 0 ≤ x.2.2 - x.2.1 by omega) (gD_nn hr)
    simp only [gD]
    omega
theorem gD_swap (x y : I3) (r : List I3) : gD (x :: y :: r) + y.1 * x.2.1 * gM r = gD (y :: x :: r) + x.1 * y.2.1 * gM r := by
  simp only [gD, gM]
  grind
theorem gLe_trans {a b c : I3} (ha : iOk a) (hb : iOk b) (hc : iOk c) (h1 : gLe a b = true) (h2 : gLe b c = true) : gLe a c = true := by
  unfold gLe at *
  rw [decide_eq_true_eq] at *
  refine Int.le_of_mul_le_mul_right (a := b.2.1) ?_ hb.2.1
  have q1 := Int.mul_le_mul_of_nonneg_right h1 (show 0 ≤ c.2.1 from Int.le_of_lt hc.2.1)
  have q2 := Int.mul_le_mul_of_nonneg_right h2 (show 0 ≤ a.2.1 from Int.le_of_lt ha.2.1)
  grind
theorem gLe_total {a b : I3} (h : gLe a b = false) : gLe b a = true := by
  unfold gLe at *
  rw [decide_eq_true_eq]
  rw [decide_eq_false_iff_not] at h
  omega
def insI (x : I3) : List I3 → List I3
  | [] => [x]
  | o :: r => if gLe o x = true then o :: insI x r else x :: o :: r
def srtI : List I3 → List I3
  | [] => []
  | x :: r => insI x (srtI r)
theorem insI_perm (x : I3) : ∀ l : List I3, (insI x l).Perm (x :: l)
  | [] => List.Perm.refl _
  | o :: r => by
    simp only [insI]
    split
    · exact ((insI_perm x r).cons o).trans (List.Perm.swap x o r)
    · exact List.Perm.refl _
theorem srtI_perm : ∀ l : List I3, (srtI l).Perm l
  | [] => List.Perm.refl _
  | x :: r => (insI_perm x (srtI r)).trans ((srtI_perm r).cons x)
theorem insI_sorted {x : I3} (hx : iOk x) : ∀ {l : List I3}, (∀ o ∈ l, iOk o) → l.Pairwise (fun a b => gLe a b = true) → (insI x l).Pairwise (fun a b => gLe a b = true)
  | [], _, _ => List.pairwise_singleton _ _
  | o :: r, hm, hp => by
    obtain ⟨p1, p2⟩ := List.pairwise_cons.1 hp
    have ho := hm o List.mem_cons_self
    have hr : ∀ y ∈ r, iOk y := fun y hy => hm y (List.mem_cons_of_mem _ hy)
    simp only [insI]
    by_cases hc : gLe o x = true
    · rw [if_pos hc]
      refine List.pairwise_cons.2 ⟨fun y hy => ?_, insI_sorted hx hr p2⟩
      rcases List.mem_cons.1 ((insI_perm x r).mem_iff.1 hy) with rfl | hy
      · exact hc
      · exact p1 y hy
    · rw [if_neg hc]
      have hc' : gLe x o = true := gLe_total (by simpa using hc)
      refine List.pairwise_cons.2 ⟨fun y hy => ?_, hp⟩
      rcases List.mem_cons.1 hy with rfl | hy
      · exact hc'
      · exact gLe_trans hx ho (hr y hy) hc' (p1 y hy)
theorem srtI_sorted : ∀ {l : List I3}, (∀ x ∈ l, iOk x) → (srtI l).Pairwise (fun a b => gLe a b = true)
  | [], _ => List.Pairwise.nil
  | x :: r, h => insI_sorted (h x List.mem_cons_self) (fun o ho => h o (List.mem_cons_of_mem _ ((srtI_perm r).mem_iff.1 ho))) (srtI_sorted fun y hy => h y (List.mem_cons_of_mem _ hy))
/-- the least ratio moved to the front -/
theorem gD_front {a : I3} (ha : iOk a) : ∀ (p q : List I3), (∀ x ∈ p, iOk x) → (∀ x ∈ q, iOk x) → (∀ x ∈ p, gLe a x = true) → gD (a :: (p ++ q)) ≤ gD (p ++ a :: q)
  | [], q, _, _, _ => Int.le_refl _
  | x :: p, q, hp, hq, hl => by
    have s := gD_swap a x (p ++ q)
    have hx := hp x List.mem_cons_self
    have hp' : ∀ y ∈ p, iOk y := fun y hy => hp y (List.mem_cons_of_mem _ hy)
    have l0 := hl x List.mem_cons_self
    unfold gLe at l0
    rw [decide_eq_true_eq] at l0
    have f := gD_front ha p q hp' hq (fun y hy => hl y (List.mem_cons_of_mem _ hy))
    have gm : gM (p ++ a :: q) = gM (a :: (p ++ q)) := gM_perm List.perm_middle
    have mp : 0 < gM (p ++ q) := gM_pos fun y hy => (List.mem_append.1 hy).elim (hp' y) (hq y)
    have k1 := Int.mul_le_mul_of_nonneg_right l0 (Int.le_of_lt mp)
    have k2 := Int.mul_le_mul_of_nonneg_left f (show 0 ≤ x.2.2 - x.2.1 by unfold iOk at hx; omega)
    have e1 : gD (x :: a :: (p ++ q)) = x.1 * gM (a :: (p ++ q)) + (x.2.2 - x.2.1) * gD (a :: (p ++ q)) := rfl
    have e2 : gD (x :: (p ++ a :: q)) = x.1 * gM (p ++ a :: q) + (x.2.2 - x.2.1) * gD (p ++ a :: q) := rfl
    rw [gm] at e2
    show gD (a :: x :: (p ++ q)) ≤ gD (x :: (p ++ a :: q))
    omega
theorem gD_least : ∀ {l p : List I3}, (∀ x ∈ l, iOk x) → l.Pairwise (fun a b => gLe a b = true) → p.Perm l → gD l ≤ gD p
  | [], p, _, _, hp => by rw [hp.eq_nil]; exact Int.le_refl _
  | a :: l, p, hm, hs, hp => by
    obtain ⟨p1, p2, rfl⟩ := List.append_of_mem (hp.mem_iff.2 List.mem_cons_self)
    have hpp : (p1 ++ p2).Perm l := (List.perm_cons a).1 (List.perm_middle.symm.trans hp)
    obtain ⟨s1, s2⟩ := List.pairwise_cons.1 hs
    have ha := hm a List.mem_cons_self
    have hl : ∀ x ∈ l, iOk x := fun x hx => hm x (List.mem_cons_of_mem _ hx)
    have hm1 : ∀ x ∈ p1, x ∈ l := fun x hx => hpp.mem_iff.1 (List.mem_append_left _ hx)
    have hm2 : ∀ x ∈ p2, x ∈ l := fun x hx => hpp.mem_iff.1 (List.mem_append_right _ hx)
    have f := gD_front ha p1 p2 (fun x hx => hl x (hm1 x hx)) (fun x hx => hl x (hm2 x hx)) (fun x hx => s1 x (hm1 x hx))
    have i := gD_least (l := l) (p := p1 ++ p2) hl s2 hpp
    have e1 : gD (a :: l) = a.1 * gM l + (a.2.2 - a.2.1) * gD l := rfl
    have e2 : gD (a :: (p1 ++ p2)) = a.1 * gM (p1 ++ p2) + (a.2.2 - a.2.1) * gD (p1 ++ p2) := rfl
    rw [gM_perm hpp] at e2
    have k := Int.mul_le_mul_of_nonneg_left i (show 0 ≤ a.2.2 - a.2.1 by unfold iOk at ha; omega)
    omega
/-- what the best order costs -/
def gB (l : List I3) : Int := gD (srtI l)
theorem gB_le {l p : List I3} (h : ∀ x ∈ l, iOk x) (hp : p.Perm l) : gB l ≤ gD p :=
  gD_least (fun x hx => h x ((srtI_perm l).mem_iff.1 hx)) (srtI_sorted h) (hp.trans (srtI_perm l).symm)
theorem gB_sorted {l p : List I3} (h : ∀ x ∈ l, iOk x) (hp : p.Perm l) (hs : p.Pairwise (fun a b => gLe a b = true)) : gB l = gD p := by
  have a := gB_le h hp
  have b := gD_least (l := p) (p := srtI l) (fun x hx => h x (hp.mem_iff.1 hx)) hs ((srtI_perm l).trans hp.symm)
  unfold gB at *
  omega
theorem gB_nn {l : List I3} (h : ∀ x ∈ l, iOk x) : 0 ≤ gB l := gD_nn fun x hx => h x ((srtI_perm l).mem_iff.1 hx)
theorem gB_perm {l p : List I3} (h : ∀ x ∈ l, iOk x) (hp : p.Perm l) : gB p = gB l := by
  have hp' : ∀ x ∈ p, iOk x := fun x hx => h x (hp.mem_iff.1 hx)
  exact (gB_sorted h ((srtI_perm p).trans hp) (srtI_sorted hp')).symm
/-- one step of a thing that is done in steps, at any place -/
theorem gD_stepA {g g' : I3} {c p : Int} (hc : 0 ≤ c) (hp : 0 ≤ p ∧ p ≤ 6) (h1 : g.1 ≤ c * g.2.2 + (6 - p) * g'.1) (h2 : g.2.1 = (6 - p) * g'.2.1) (h3 : g.2.2 = 6 * g'.2.2) (hg : iOk g') :
    ∀ (A B : List I3), (∀ x ∈ A, iOk x) → (∀ x ∈ B, iOk x) → gD (A ++ g :: B) ≤ c * gM (A ++ g :: B) + (6 - p) * gD (A ++ g' :: B) + p * g'.2.2 * gD (A ++ B)
  | [], B, _, hB => by
    have mp := gM_pos hB
    have k := Int.mul_le_mul_of_nonneg_right h1 (Int.le_of_lt mp)
    simp only [List.nil_append, gD, gM]
    rw [h2]
    rw [h3] at k ⊢
    grind
  | x :: A, B, hA, hB => by
    have hA' : ∀ y ∈ A, iOk y := fun y hy => hA y (List.mem_cons_of_mem _ hy)
    have hx := hA x List.mem_cons_self
    have ih := gD_stepA hc hp h1 h2 h3 hg A B hA' hB
    have mp : 0 < gM (A ++ B) := gM_pos fun y hy => (List.mem_append.1 hy).elim (hA' y) (hB y)
    have m1 : gM (A ++ g :: B) = 6 * g'.2.2 * gM (A ++ B) := by
      rw [gM_perm (List.perm_middle (a := g) (l₁ := A) (l₂ := B))]
      simp only [gM]
      rw [h3]
    have m2 : gM (A ++ g' :: B) = g'.2.2 * gM (A ++ B) := by
      rw [gM_perm (List.perm_middle (a := g') (l₁ := A) (l₂ := B))]
      rfl
    have k := Int.mul_le_mul_of_nonneg_left ih (show 0 ≤ x.2.2 - x.2.1 by unfold iOk at hx; omega)
    have gp : 0 ≤ g'.2.2 := by unfold iOk at hg; omega
    have cn : 0 ≤ x.2.1 * (c * (6 * g'.2.2 * gM (A ++ B))) := Int.mul_nonneg (Int.le_of_lt hx.2.1) (Int.mul_nonneg hc (Int.mul_nonneg (by omega) (Int.le_of_lt mp)))
    simp only [List.cons_append, gD, gM]
    rw [m1] at k ⊢
    rw [m2]
    grind
theorem gB_step {g g' : I3} {c p : Int} (hc : 0 ≤ c) (hp : 0 ≤ p ∧ p ≤ 6) (h1 : g.1 ≤ c * g.2.2 + (6 - p) * g'.1) (h2 : g.2.1 = (6 - p) * g'.2.1) (h3 : g.2.2 = 6 * g'.2.2) (hg : iOk g) (hg' : iOk g') {O : List I3} (hO : ∀ x ∈ O, iOk x) :
    gB (g :: O) ≤ c * gM (g :: O) + (6 - p) * gB (g' :: O) + p * g'.2.2 * gB O := by
  have h0 : ∀ x ∈ g :: O, iOk x := fun x hx => (List.mem_cons.1 hx).elim (fun e => e ▸ hg) (hO x)
  have h0' : ∀ x ∈ g' :: O, iOk x := fun x hx => (List.mem_cons.1 hx).elim (fun e => e ▸ hg') (hO x)
  have P := srtI_perm (g' :: O)
  have S := srtI_sorted h0'
  obtain ⟨A, B, e⟩ := List.append_of_mem (P.mem_iff.2 (List.mem_cons_self))
  rw [e] at P S
  have AB : (A ++ B).Perm O := (List.perm_cons g').1 (List.perm_middle.symm.trans P)
  have hA : ∀ x ∈ A, iOk x := fun x hx => hO x (AB.mem_iff.1 (List.mem_append_left _ hx))
  have hB : ∀ x ∈ B, iOk x := fun x hx => hO x (AB.mem_iff.1 (List.mem_append_right _ hx))
  have sAB : (A ++ B).Pairwise (fun a b => gLe a b = true) := List.Pairwise.sublist (List.Sublist.append_left (List.sublist_cons_self g' B) A) S
  have e1 : gB O = gD (A ++ B) := gB_sorted hO AB sAB
  have e2 : gB (g' :: O) = gD (A ++ g' :: B) := by unfold gB; rw [e]
  have pm : (A ++ g :: B).Perm (g :: O) := List.perm_middle.trans (AB.cons g)
  have l := gB_le h0 pm
  have s := gD_stepA hc hp h1 h2 h3 hg' A B hA hB
  rw [gM_perm pm] at s
  rw [e1, e2]
  omega
theorem gB_zero {l : List I3} (h : ∀ x ∈ l, iOk x) {x : I3} (hx : x ∈ l) (h1 : x.1 = 0) (h2 : x.2.1 = x.2.2) : gB l = 0 := by
  obtain ⟨A, B, rfl⟩ := List.append_of_mem hx
  have a := gB_nn h
  have b := gB_le h (p := x :: (A ++ B)) List.perm_middle.symm
  simp only [gD] at b
  rw [h1, h2] at b
  simp at b
  omega
end
section
def pA (us : List T) (k : Nat) : Int := (us.getD k (0, 0)).2
def itT (us : List T) (k : Nat) : I3 := (6 * cA us k, pA us k, 6)
/-- what a group costs at best, and the chance that none comes out yes -/
def grC (us : List T) (l : List Nat) : Int := gB (l.map (itT us))
def grN (us : List T) : List Nat → Int
  | [] => 1
  | k :: r => (6 - pA us k) * grN us r
def gI (us : List T) (l : List Nat) : I3 := (grC us l, grN us l, 6 ^ l.length)
theorem pA_bd {us : List T} (h : us.all tOk = true) {k : Nat} (hk : k < us.length) : 1 ≤ pA us k ∧ pA us k ≤ 5 := by
  unfold pA
  have e : us.getD k (0, 0) = us[k] := by simp [List.getD, hk]
  rw [e]
  have := tOk_iff.1 (List.all_eq_true.1 h us[k] (List.getElem_mem hk))
  omega
theorem itT_ok {us : List T} (h : us.all tOk = true) {k : Nat} (hk : k < us.length) : iOk (itT us k) := by
  have a := pA_bd h hk
  have b := cA_nn h k
  refine ⟨?_, ?_, ?_⟩ <;> simp only [itT] <;> omega
theorem its_ok {us : List T} (h : us.all tOk = true) {l : List Nat} (hl : ∀ k ∈ l, k < us.length) : ∀ x ∈ l.map (itT us), iOk x := fun x hx => by
  obtain ⟨k, hk, rfl⟩ := List.mem_map.1 hx
  exact itT_ok h (hl k hk)
theorem its_M (us : List T) : ∀ l : List Nat, gM (l.map (itT us)) = 6 ^ l.length
  | [] => rfl
  | k :: r => by
    simp only [List.map_cons, gM, List.length_cons]
    rw [its_M us r, Int.pow_succ, Int.mul_comm]
    rfl
theorem grN_bd {us : List T} (h : us.all tOk = true) : ∀ {l : List Nat}, (∀ k ∈ l, k < us.length) → 0 < grN us l ∧ grN us l ≤ 6 ^ l.length
  | [], _ => by simp [grN]
  | k :: r, hl => by
    obtain ⟨a1, a2⟩ := grN_bd h (l := r) (fun j hj => hl j (List.mem_cons_of_mem _ hj))
    have b := pA_bd h (hl k List.mem_cons_self)
    simp only [grN, List.length_cons]
    refine ⟨Int.mul_pos (by omega) a1, ?_⟩
    have k1 := Int.mul_le_mul_of_nonneg_right (show 6 - pA us k ≤ 6 by omega) (Int.le_of_lt a1)
    rw [Int.pow_succ]
    omega
theorem grN_perm {us : List T} {l l' : List Nat} (h : l.Perm l') : grN us l = grN us l' := by
  induction h with
  | nil => rfl
  | cons x _ ih => simp only [grN]; rw [ih]
  | swap x y l => simp only [grN]; rw [Int.mul_left_comm]
  | trans _ _ a b => exact a.trans b
theorem gI_ok {us : List T} (h : us.all tOk = true) {l : List Nat} (hl : ∀ k ∈ l, k < us.length) : iOk (gI us l) :=
  ⟨gB_nn (its_ok h hl), (grN_bd h hl).1, (grN_bd h hl).2⟩
/-- one test fewer -/
theorem grC_cons {us : List T} (h : us.all tOk = true) {k : Nat} {l : List Nat} (hk : k < us.length) (hl : ∀ k ∈ l, k < us.length) : grC us (k :: l) ≤ cA us k * 6 ^ (l.length + 1) + (6 - pA us k) * grC us l := by
  have hkl : ∀ j ∈ k :: l, j < us.length := fun j hj => (List.mem_cons.1 hj).elim (fun e => e ▸ hk) (hl j)
  have a := gB_le (its_ok h hkl) (p := itT us k :: srtI (l.map (itT us))) ((srtI_perm _).cons _)
  simp only [gD] at a
  rw [gM_perm (srtI_perm _), its_M] at a
  have e : (itT us k).2.2 - (itT us k).2.1 = 6 - pA us k := rfl
  have e1 : (itT us k).1 = 6 * cA us k := rfl
  rw [e, e1] at a
  unfold grC
  have e2 : cA us k * 6 ^ (l.length + 1) = 6 * cA us k * 6 ^ l.length := by rw [Int.pow_succ]; grind
  rw [e2]
  exact a
theorem grC_perm {us : List T} (h : us.all tOk = true) {l l' : List Nat} (hl : ∀ k ∈ l, k < us.length) (hp : l'.Perm l) : grC us l' = grC us l :=
  gB_perm (its_ok h hl) (hp.map _)
theorem gI_perm {us : List T} (h : us.all tOk = true) {l l' : List Nat} (hl : ∀ k ∈ l, k < us.length) (hp : l'.Perm l) : gI us l' = gI us l := by
  unfold gI
  rw [grC_perm h hl hp, grN_perm hp, hp.length_eq]
def gYes (ks : List Int) (g : List Nat) : Bool := g.any fun k => ks[k]? == some 1
def gRem (ks : List Int) (g : List Nat) : List Nat := g.filter fun k => ks[k]? == some (-1)
def gRest (us : List T) (ks : List Int) : List (List Nat) → List I3
  | [] => []
  | g :: r => if gYes ks g then gRest us ks r else gI us (gRem ks g) :: gRest us ks r
theorem gYes_set {ks : List Int} {k : Nat} {v : Int} : ∀ {g : List Nat}, k ∉ g → gYes (ks.set k v) g = gYes ks g
  | [], _ => rfl
  | j :: r, h => by
    have h1 : k ≠ j := fun e => h (e ▸ List.mem_cons_self)
    have h2 : k ∉ r := fun x => h (List.mem_cons_of_mem _ x)
    have ih := gYes_set (ks := ks) (v := v) h2
    unfold gYes at ih ⊢
    simp only [List.any_cons]
    rw [ih, List.getElem?_set_ne h1]
theorem gRem_set {ks : List Int} {k : Nat} {v : Int} : ∀ {g : List Nat}, k ∉ g → gRem (ks.set k v) g = gRem ks g
  | [], _ => rfl
  | j :: r, h => by
    have h1 : k ≠ j := fun e => h (e ▸ List.mem_cons_self)
    have h2 : k ∉ r := fun x => h (List.mem_cons_of_mem _ x)
    have ih := gRem_set (ks := ks) (v := v) h2
    unfold gRem at ih ⊢
    simp only [List.filter_cons]
    rw [ih, List.getElem?_set_ne h1]
theorem gRest_set {us : List T} {ks : List Int} {k : Nat} {v : Int} : ∀ {L : List (List Nat)}, (∀ g ∈ L, k ∉ g) → gRest us (ks.set k v) L = gRest us ks L
  | [], _ => rfl
  | g :: r, h => by
    simp only [gRest]
    rw [gYes_set (h g List.mem_cons_self), gRem_set (h g List.mem_cons_self), gRest_set fun x hx => h x (List.mem_cons_of_mem _ hx)]
theorem gRest_app (us : List T) (ks : List Int) : ∀ A B : List (List Nat), gRest us ks (A ++ B) = gRest us ks A ++ gRest us ks B
  | [], B => rfl
  | g :: A, B => by
    simp only [List.cons_append, gRest]
    rw [gRest_app us ks A B]
    split <;> rfl
theorem gRest_ok {us : List T} (h : us.all tOk = true) (ks : List Int) : ∀ {L : List (List Nat)}, (∀ g ∈ L, ∀ k ∈ g, k < us.length) → ∀ x ∈ gRest us ks L, iOk x
  | [], _, x, hx => by simp [gRest] at hx
  | g :: r, hL, x, hx => by
    have hr : ∀ g ∈ r, ∀ k ∈ g, k < us.length := fun g' hg' => hL g' (List.mem_cons_of_mem _ hg')
    have ho := gI_ok h (l := gRem ks g) (fun k hk => hL g List.mem_cons_self k (List.mem_filter.1 hk).1)
    simp only [gRest] at hx
    split at hx
    · exact gRest_ok h ks hr x hx
    · rcases List.mem_cons.1 hx with rfl | hx
      · exact ho
      · exact gRest_ok h ks hr x hx
theorem gRem_no {ks : List Int} {k : Nat} (hk : ks[k]? = some (-1)) : ∀ {g : List Nat}, g.Nodup → k ∈ g → (gRem ks g).Perm (k :: gRem (ks.set k 0) g)
  | [], _, h => by simp at h
  | j :: r, nd, h => by
    obtain ⟨n1, n2⟩ := List.nodup_cons.1 nd
    have hlt := (List.getElem?_eq_some_iff.1 hk).1
    by_cases e : j = k
    · subst e
      have e2 := gRem_set (ks := ks) (k := j) (v := 0) n1
      have a : gRem ks (j :: r) = j :: gRem ks r := by simp [gRem, List.filter_cons, hk]
      have b : gRem (ks.set j 0) (j :: r) = gRem (ks.set j 0) r := by simp [gRem, List.filter_cons, List.getElem?_set_self hlt]
      rw [a, b, e2]
    · have hr : k ∈ r := (List.mem_cons.1 h).resolve_left fun x => e x.symm
      have ih := gRem_no hk n2 hr
      have es : (ks.set k 0)[j]? = ks[j]? := List.getElem?_set_ne fun x => e x.symm
      by_cases hj : ks[j]? = some (-1)
      · have a : gRem ks (j :: r) = j :: gRem ks r := by simp [gRem, List.filter_cons, hj]
        have b : gRem (ks.set k 0) (j :: r) = j :: gRem (ks.set k 0) r := by simp [gRem, List.filter_cons, es, hj]
        rw [a, b]
        exact (ih.cons j).trans (List.Perm.swap k j _)
      · have a : gRem ks (j :: r) = gRem ks r := by simp [gRem, List.filter_cons, hj]
        have b : gRem (ks.set k 0) (j :: r) = gRem (ks.set k 0) r := by simp [gRem, List.filter_cons, es, hj]
        rw [a, b]
        exact ih
theorem gYes_mono {ks : List Int} {k : Nat} {v : Int} (hk : ks[k]? = some (-1)) {g : List Nat} (h : gYes ks g = true) : gYes (ks.set k v) g = true := by
  unfold gYes at *
  rw [List.any_eq_true] at *
  obtain ⟨j, h1, h2⟩ := h
  refine ⟨j, h1, ?_⟩
  rw [beq_iff_eq] at *
  by_cases e : k = j
  · subst e
    rw [hk] at h2
    cases h2
  · rw [List.getElem?_set_ne e]
    exact h2
theorem gYes_yes {ks : List Int} {k : Nat} (hk : ks[k]? = some (-1)) {g : List Nat} (h : k ∈ g) : gYes (ks.set k 1) g = true := by
  unfold gYes
  rw [List.any_eq_true]
  refine ⟨k, h, ?_⟩
  rw [List.getElem?_set_self (List.getElem?_eq_some_iff.1 hk).1, beq_iff_eq]
theorem gYes_no {ks : List Int} {k : Nat} (hk : ks[k]? = some (-1)) {g : List Nat} (h : gYes ks g = false) : gYes (ks.set k 0) g = false := by
  unfold gYes at *
  rw [List.any_eq_false] at *
  intro j hj
  have := h j hj
  by_cases e : k = j
  · subst e
    rw [List.getElem?_set_self (List.getElem?_eq_some_iff.1 hk).1]
    simp
  · rw [List.getElem?_set_ne e]
    exact this
/-- groups: all tests, each once -/
structure Gok (m : Nat) (L : List (List Nat)) : Prop where
  lt : ∀ g ∈ L, ∀ k ∈ g, k < m
  nd : L.flatten.Nodup
  all : ∀ k, k < m → k ∈ L.flatten
  ne : ∀ g ∈ L, g ≠ []
theorem gok_at {m : Nat} {L : List (List Nat)} (h : Gok m L) {k : Nat} (hk : k < m) : ∃ A g B, L = A ++ g :: B ∧ k ∈ g ∧ g.Nodup ∧ (∀ x ∈ A ++ B, k ∉ x) := by
  obtain ⟨g, hg, hkg⟩ := List.mem_flatten.1 (h.all k hk)
  obtain ⟨A, B, rfl⟩ := List.append_of_mem hg
  have nd := h.nd
  rw [List.flatten_append, List.flatten_cons] at nd
  obtain ⟨_, n2, n3⟩ := List.nodup_append.1 nd
  obtain ⟨m1, _, m3⟩ := List.nodup_append.1 n2
  refine ⟨A, g, B, rfl, hkg, m1, fun x hx hkx => ?_⟩
  rcases List.mem_append.1 hx with hx | hx
  · exact n3 k (List.mem_flatten.2 ⟨x, hx, hkx⟩) k (List.mem_append_left _ hkg) rfl
  · exact m3 k hkg k (List.mem_flatten.2 ⟨x, hx, hkx⟩) rfl
/-- the value of groups -/
def gV (L : List (List Nat)) (s : Nat) : Bool := L.all fun g => g.any fun k => s.testBit k
theorem gRest_fcd {us t : List T} (h : us.all tOk = true) {L : List (List Nat)} (hL : ∀ g ∈ L, ∀ k ∈ g, k < us.length) (hv : ∀ s, s < 2 ^ us.length → tv t s = gV L s) {ks : List Int} (hl : ks.length = us.length) (hk : ks.all kOk = true) (hf : fcd us.length t ks = true) :
    gB (gRest us ks L) = 0 := by
  have ok := gRest_ok h ks hL
  obtain ⟨b, hb⟩ := (fcd_iff hl hk).1 hf
  by_cases hz : ∃ g ∈ L, gYes ks g = false ∧ gRem ks g = []
  · obtain ⟨g, h1, h2, h3⟩ := hz
    have hm : gI us [] ∈ gRest us ks L := by
      obtain ⟨A, B, rfl⟩ := List.append_of_mem h1
      rw [gRest_app]
      refine List.mem_append_right _ ?_
      simp only [gRest]
      rw [h2, h3, if_neg (by simp)]
      exact List.mem_cons_self
    exact gB_zero ok hm rfl rfl
  · have kv : ∀ k, k < us.length → ks[k]? = some (-1) ∨ ks[k]? = some 0 ∨ ks[k]? = some 1 := fun k hk' => by
      have e := List.getElem?_eq_getElem (l := ks) (i := k) (by omega)
      have := List.all_eq_true.1 hk ks[k] (List.getElem_mem (by omega))
      unfold kOk at this
      simp only [decide_eq_true_eq] at this
      rw [e]
      simp only [Option.some.injEq]
      omega
    have hz1 : ∀ g ∈ L, ∃ k ∈ g, ks[k]? ≠ some 0 := fun g hg => by
      cases hy : gYes ks g with
      | true =>
        unfold gYes at hy
        obtain ⟨k, k1, k2⟩ := List.any_eq_true.1 hy
        rw [beq_iff_eq] at k2
        exact ⟨k, k1, by rw [k2]; simp⟩
      | false =>
        have : gRem ks g ≠ [] := fun e => hz ⟨g, hg, hy, e⟩
        obtain ⟨k, hk'⟩ := List.exists_mem_of_ne_nil _ this
        obtain ⟨k1, k2⟩ := List.mem_filter.1 hk'
        rw [beq_iff_eq] at k2
        exact ⟨k, k1, by rw [k2]; simp⟩
    have ag : ∀ (d : Bool), agB ks (tabN (fun k => if ks[k]? = some (-1) then d else ks[k]? == some 1) us.length) = true := fun d => by
      rw [agB_iff]
      intro k v hkv
      have hlt := (List.getElem?_eq_some_iff.1 hkv).1
      rcases kv k (by omega) with q | q | q
      · left; rw [q] at hkv; exact (Option.some.inj hkv).symm
      · right
        rw [tabN_bit, decide_eq_true (show k < us.length by omega), q]
        rw [q] at hkv
        rw [← Option.some.inj hkv]
        simp [bI]
      · right
        rw [tabN_bit, decide_eq_true (show k < us.length by omega), q]
        rw [q] at hkv
        rw [← Option.some.inj hkv]
        simp [bI]
    have v1 : gV L (tabN (fun k => if ks[k]? = some (-1) then true else ks[k]? == some 1) us.length) = true := by
      unfold gV
      rw [List.all_eq_true]
      intro g hg
      obtain ⟨k, k1, k2⟩ := hz1 g hg
      rw [List.any_eq_true]
      refine ⟨k, k1, ?_⟩
      rw [tabN_bit, decide_eq_true (hL g hg k k1)]
      rcases kv k (hL g hg k k1) with q | q | q
      · simp [q]
      · exact absurd q k2
      · simp [q]
    have bt : b = true := by
      have := hb _ (tabN_lt _ _) (ag true)
      rw [hv _ (tabN_lt _ _), v1] at this
      exact this.symm
    have v0 : gV L (tabN (fun k => if ks[k]? = some (-1) then false else ks[k]? == some 1) us.length) = true := by
      have := hb _ (tabN_lt _ _) (ag false)
      rw [hv _ (tabN_lt _ _)] at this
      rw [this, bt]
    have all1 : ∀ g ∈ L, gYes ks g = true := fun g hg => by
      unfold gV at v0
      have := List.all_eq_true.1 v0 g hg
      obtain ⟨k, k1, k2⟩ := List.any_eq_true.1 this
      unfold gYes
      rw [List.any_eq_true]
      refine ⟨k, k1, ?_⟩
      rw [tabN_bit, decide_eq_true (hL g hg k k1), Bool.true_and] at k2
      by_cases q : ks[k]? = some (-1)
      · rw [if_pos q] at k2; cases k2
      · rw [if_neg q] at k2; exact k2
    have em : ∀ L' : List (List Nat), (∀ g ∈ L', gYes ks g = true) → gRest us ks L' = [] := fun L' => by
      induction L' with
      | nil => intro _; rfl
      | cons g r ih =>
        intro hh
        simp only [gRest]
        rw [hh g List.mem_cons_self, if_pos rfl]
        exact ih fun x hx => hh x (List.mem_cons_of_mem _ hx)
    rw [em L all1]
    rfl
end
end Zz
