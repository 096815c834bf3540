/- What the functions answer, as equations: EB. No conditions. -/
import Derived.Test.YtahkmbihhkjebaaDoorEAzu
set_option linter.unusedSectionVars false
set_option linter.unusedVariables false
set_option linter.unusedSimpArgs false
namespace Zz
open Go.Lg Md
set_option linter.unusedSimpArgs false
set_option linter.unusedVariables false
attribute [local simp] tm_mv tm_newnil tm_pick tm_bin tm_eqb tm_eqs tm_un tm_len tm_lens tm_chk tm_fld tm_fldv tm_idxa tm_idx tm_load tm_store tm_slice tm_slices tm_make tm_alloc tm_box tm_build tm_app tm_conv tm_ext tm_call tm_calld tm_mkfn tm_mm tm_idxp tm_eqn tm_callg tm_callm tm_bslice0 tm_bslice1 tm_bslice2 tm_bslice nt_nil nt_cons nc_nil' nc_cons sa_mkfn cv_adr cv_i cv_y cv_b cv_w sa_calld nm_def nh_nil nh_cons nxM_some nxM_none sc_st sd_i sd_y sd_b sd_s sd_w sd_q sc_i sc_y sc_b sc_s sc_w sc_q sa_bslice sa_app nc_own nc_nil sa_call sa_alloc sa_build sa_callm rm_nil rm_one rm_gen bq_mul bq_eql ia_mv ia_newnil ia_pick ia_bin ia_eqb ia_eqs ia_un ia_len ia_lens ia_chk ia_fld ia_fldv ia_idxa ia_idx ia_load ia_store ia_slice ia_slices ia_make ia_alloc ia_box ia_build ia_bslice ia_app ia_b2i ia_i2b ia_i2i ia_same ia_b2s ia_s2b ia_ext ia_mm ia_idxp ia_calld ia_mkfn ia_i2r ia_r2s ia_call pt_nil pt_cons mi_nil mi_cons md_bslice md_mv md_newnil md_pick md_bin md_eqb md_un md_len md_lens md_fld md_fldv md_idxa md_idx md_load md_store md_slice md_slices md_make md_alloc md_box md_build md_app md_conv md_ext md_call md_calld md_callg md_mkfn md_mm md_idxp md_eqn md_eqs md_chk tg_bslice tg_mv tg_newnil tg_pick tg_bin tg_eqb tg_un tg_len tg_lens tg_fld tg_fldv tg_idxa tg_idx tg_load tg_store tg_slice tg_slices tg_make tg_alloc tg_box tg_build tg_app tg_conv tg_ext tg_call tg_calld tg_callg tg_mkfn tg_mm tg_idxp tg_eqn tg_eqs tg_chk rp_eq ro_eq ifP_t ifP_f np_def ng1_nil ng2_nil ng_gate ng_gen tgA_t tgA_0 tgA_1 tgA_2 aC_nil aC_c aC_t nxP_some nxP_none rq_nil rq_gen rq_gate nxR_some nxR_none ru_nil ru_gen ru_gate pl_none pl_some gt_nil gt_t gt_c di_some di_none an_nil an_cons nxG_some nxG_none rg_nil rg_gen rg_gate oldO_some oa_nil oa_i oa_y oa_b oa_s oa_st oa_sl oa_own oa_oad oa_nl al_nil al_cons al_i al_y al_b al_s al_st al_sl nxF_some nxF_none rf_nil rf_gen rf_gate hk_newnil hk_make hk_alloc hk_box hk_build hk_bslice hk_call hk_store hk_app hk_appn em_cel mm_cel ok_cel ov_cel so_cel il_cel oi_cel oj_cel ol_cel nm_cel hk_appc ef_bslice5 ef_app_cel ks_shut shu_own shc_none shc_cel cl_nil cl_cons ai_nil ai_cons il_i il_y il_b il_s il_st il_sl il_own il_adr il_oad il_ref il_fr il_tup il_nil il_np il_und il_dead ol_adr ol_b ol_dead ol_e ol_fn ol_fr ol_i ol_nil ol_np ol_oad ol_own ol_q ol_r ol_ref ol_s ol_sl ol_st ol_tup ol_und ol_w ol_y oj_e oj_i oj_y oj_b oj_s oj_st oj_sl oj_own oj_adr oj_oad oj_ref oj_fr oj_tup oj_nil oj_np oj_und oj_dead oj_w oj_q oj_r oj_fn oi_e oi_i oi_y oi_b oi_s oi_st oi_sl oi_own oi_adr oi_oad oi_ref oi_fr oi_tup oi_nil oi_np oi_und oi_dead as_nil as_cons ao_nil ao_cons av_i av_y av_b av_s av_st av_sl av_own av_adr av_oad av_ref av_fr av_tup av_nil av_np av_und av_dead pro_cons ghK_some ks_promote ks_freeze frz_own ks_rename ren_own dropO adoptP newP wholeP cutP allOldL ex_skip ex_ret ex_exit ks_region ks_seq ks_cond ks_block seqK_n seqK_e seqK_r regK_some condK_t condK_f blkK_n blkK_r blkK_e endK_n endK_r rr_false rr_true rd_free mo_nil mo_cons drK_some drK_none nxW_some nxW_none rw_nil rw_gen rw_gate ak_newnil ak_make ak_alloc ak_box ak_build ak_bslice ak_call ak_store ak_app iw_mm iw_eqn iw_idxp ef_callg cgK_some gv_e gv_own gv_i gv_sl gv_st gv_b gv_nil gvK_some gvO_some iw_callg ia_callg ak_callg hk_callg is_mv is_newnil is_pick is_bin is_eqb is_eqs is_un is_len is_lens is_chk is_fld is_fldv is_idxa is_idx is_load is_slice is_slices is_make is_alloc is_box is_build is_bslice is_app is_conv is_ext is_call is_calld is_callg is_mkfn is_mm is_idxp is_eqn is_store rt_nil rt_gen rt_gate nxT_some nxT_none ef_eqn_nil ef_eqn_sl ef_eqn_own ia_eqn ef_mmx ef_mmn ef_idxp nxD_some nxD_none ov_i ov_y ov_b ov_s ov_st ov_sl ov_own ov_oad ov_adr ov_nil ov_np ov_und ov_dead ov_tup oldN_some oldN_nil oldN_none so_none so_i so_y so_b so_s so_st so_sl so_adr so_nil so_np so_und so_dead anyM_nil anyM_t anyM_c so_own so_oad rd_nil rd_gen rd_mv rd_gate iw_mv iw_newnil iw_pick iw_bin iw_eqb iw_eqs iw_un iw_len iw_lens iw_chk iw_fld iw_fldv iw_idxa iw_idx iw_load iw_store iw_slice iw_slices iw_make iw_alloc iw_box iw_build iw_bslice iw_app iw_b2i iw_i2b iw_i2i iw_same iw_b2s iw_s2b iw_ext iw_call nm_i nm_y nm_b nm_s nm_st nm_sl nm_own nm_oad nm_adr nm_nil nm_np nm_und nm_dead nm_tup rl_nil rl_gate rl_mv rl_gen opv_t opv_c nx_some nx_none gate_tt gate_tf gate_ft gate_ff gate_u fr_ap em_nil em_i em_y em_b em_s em_st em_sl em_own em_adr em_oad em_ref em_nl em_np em_und em_dead em_tup0 em_tup_i em_tup_b em_tup_s em_tup_sl em_tup_st em_tup_np em_tup_own em_tup_oad mm_i mm_y mm_b mm_s mm_st mm_sl mm_own mm_oad mm_adr mm_nil mm_np mm_und mm_dead ef_mv ef_newnil ef_pickt ef_pickf ef_bin ef_eqb ef_eqs ef_un ef_lens ef_len_sl ef_len_own ef_len_nil ef_chk_adr ef_chk_oad ef_fld_adr ef_fld_oad ef_fldv idxR_some ef_idxa_sl ef_idxa_own ef_idx ef_load_adr_st ef_load_adr_i ef_load_adr_y ef_load_adr_b ef_load_adr_s ef_load_adr_sl atN_nil atN_zero atN_succ ef_load_oad ef_store ef_slice ef_slices ef_make ef_alloc ef_box ef_build ef_bslice ef_app_own ef_app_nil ef_b2i ef_i2b ef_i2i ef_same ef_ext ret1 ret2_some calL_some ef_call retC_i retC_y retC_b retC_s retC_st retC_sl retC_np retC_fr retC_ref retC_tup rk_nil rk_i rk_y rk_b rk_s rk_st rk_sl rk_own rk_oad rk_nl ok_nil ok_i ok_y ok_b ok_s ok_st ok_sl ok_own ok_oad ok_nl lo_nil lo_i lo_y lo_b lo_s lo_st lo_sl lo_own lo_oad lo_nl pr_nil pr_i pr_y pr_b pr_s pr_st pr_sl pr_own pr_nl pr_oad nr_i nr_y nr_b nr_s nr_st nr_sl nr_fr nr_np nr_tup ng_i ng_b ng_s ng_fr ng_nil resV effP_eff binD bi_add bi_sub bi_mul bi_quo bi_rem bi_eql bi_neq bi_lss bi_leq bi_gtr bi_geq bi_shl bi_shr bi_and bi_or bi_xor bi_andNot binY binS unD look put putD LS.get LS.drop killE sweep lookO putO dropO enter leave giveBackL giveBack outs lendArgs lendArg newOuts takeIn takeInL lendL DV.lend adoptL DV.adopt elems apartKs part DV.cells unpart settle settleL over mkId szId fillP fillE tk_e2 tk_i tk_y lt_e2 lt_i lt_y lend_rep al_e2 al_is al_ys al_rep al_app lend_app adopt_app new_app lend_e2 lend_i lend_y adopt_e2 adopt_i adopt_y new_e2 new_i allNewL DV.allNew bounds sliceD sliceS em_w em_q em_r em_fn em_tup_w em_tup_q em_tup_r mm_w mm_q mm_r mm_fn ef_load_adr_w ef_load_adr_q ef_load_adr_r retC_w retC_q retC_r rk_w rk_q rk_r rk_fn ok_w ok_q ok_r ok_fn lo_w lo_q lo_r lo_fn pr_w pr_q pr_r pr_fn nr_w nr_q nr_r ng_w ng_q ng_r oa_w oa_q oa_r oa_fn al_w al_q al_r al_fn ov_w ov_q ov_r ov_fn so_w so_q so_r so_fn il_w il_q il_r il_fn oi_w oi_q oi_r oi_fn av_w av_q av_r av_fn nm_w nm_q nm_r nm_fn ef_i2r ef_r2s ef_mkfn ef_mkbd ef_idxp_adr ef_idxp_q ef_calld_nil ef_calld_adr ef_calld_bd DV.capB capsOk DV.cell List.all_cons List.all_nil rk_own_t lo_own_t lk_f lk_t pr_own_t mutB ak_calld hk_calld iw_calld iw_mkfn iw_i2r iw_r2s bw_and bw_or bw_xor bw_andNot bw_eql bw_neq sw_shl sw_shr sq_shl gEnv_nil rk_adr ok_adr lo_adr pr_adr oa_adr capL capArg DV.cap ak_mkfn hk_mkfn hk_mkbd ef_callm gf_ap ga_nil ga_cons tgv_own gk_e gk_giv gk_i gk_y gk_b gk_s gk_w gk_q gk_r gk_fn gk_st gk_sl gk_own gk_oad gk_adr gk_nl gk_np rk_giv ok_giv lo_giv pr_giv oa_giv iw_callm hk_callm ak_callm is_callm ia_callm tg_callm md_callm ef_i2q ef_q2i ef_q2q iw_i2q iw_q2i iw_q2q ia_i2q ia_q2i ia_q2q bq_and bq_add bq_shr sq_shr tgv_nil gk_ref rk_ref ok_ref lo_ref pr_ref oa_ref retC_fn nr_fn ef_load_adr_fn ks_close cls_oad
attribute [local congr] nxM_congr ifP_congr nxP_congr nxR_congr nxT_congr nxG_congr nxF_congr ghK_congr gate_congr nx_congr nxD_congr runL_congr runD_congr eff_congr calL_congr ret2_congr seqK_congr regK_congr condK_congr endK_congr drK_congr nxW_congr
attribute [local simp ↓] nxM_some rm_nil rm_one rm_gen nxT_some rt_nil rt_gen rt_gate nxP_some rq_nil rq_gen rq_gate nxR_some ru_nil ru_gen ru_gate nxG_some rg_nil rg_gen rg_gate nxF_some rf_nil rf_gen rf_gate ks_promote ks_freeze frz_own ks_rename ghK_some gate_tt gate_tf gate_ft gate_ff gate_u nx_some nxD_some rl_nil rl_mv rl_gen rl_gate rd_nil rd_mv rd_gen rd_gate rd_free rr_false rr_true drK_some drK_none nxW_some rw_nil rw_gen rw_gate ks_region ks_seq ks_cond ks_block seqK_n seqK_e seqK_r regK_some condK_t condK_f blkK_n blkK_r endK_n endK_r calL_some ret2_some opv_t opv_c
section
attribute [-simp] DV.cells
attribute [local simp] sliceD cells_st cells_sl cells_i cells_y cells_b cells_s cells_w
attribute [local simp] lend_e3 adopt_e3 new_e3 al_e3 lt_e3
set_option maxHeartbeats 4000000 in
theorem c_BestPlan_1 {us t : List T} (hu : us.all tOk = true) (hm : 1 ≤ us.length ∧ us.length ≤ 5) (ht : tmOk us.length t = true) {f : Nat} {ks : List Int} (hf5 : f ≤ 5) (hl : ks.length = us.length) (hk : ks.all kOk = true) (hf : uk ks ≤ f) :
    call lf n_impl_BestPlan_1 [pD us.length t ks, .adr (.fn n_impl_averagesOf_1 [.adr (.sl 0 (us.map e2))])] = some (.i (bPl us t f ks).2, []) := by
  have C := c_leastFromA hu hm ht f ks hf5 hl hk hf
  rw [(lsF_bPl hu f ks hl hk hf).2.2] at C
  rw [call_k lf n_impl_BestPlan_1 _ (F := F_impl_BestPlan_1) rfl rfl]
  generalize (lsF us.length t (avQ us) f ks).2 = x at *
  unfold pD pv at *
  simp [F_impl_BestPlan_1, C]
theorem bT_pf {us t : List T} (hu : us.all tOk = true) (hm : 1 ≤ us.length ∧ us.length ≤ 5) (ht : tmOk us.length t = true) : ∀ (f : Nat) (ks : List Int) (place : Nat), f ≤ 5 → ks.length = us.length → ks.all kOk = true → uk ks ≤ f → place + (bT us t f ks).size ≤ 40 →
    call lf n_impl_planFrom [pD us.length t ks, .i place, .fn n_impl_BestPlan_1 [.adr (.fn n_impl_averagesOf_1 [.adr (.sl 0 (us.map e2))])]] = some (.fr 3 ((ser (bT us t f ks) place).map e3), [])
  | f, ks, place, hf5, hl, hk, hf, hp => by
    have B := bPl_ok (t := t) hu f ks hl hk hf
    cases hc : fcd us.length t ks with
    | true =>
      have e : bT us t f ks = .stop := by
        cases f with
        | zero => rfl
        | succ f => simp only [bT]; rw [B.stop hc, if_pos rfl]
      rw [e]
      exact pf_stopB ht hl hk hc
    | false =>
      cases f with
      | zero =>
        rw [fcd_all hl hk (by omega)] at hc
        cases hc
      | succ f =>
        obtain ⟨k, k1, k2, _, _⟩ := B.go hc
        have hn : (bPl us t (f + 1) ks).2 ≠ -1 := by omega
        have e : bT us t (f + 1) ks = .ask k (bT us t f (ks.set k 0)) (bT us t f (ks.set k 1)) := by
          simp only [bT]
          rw [if_neg hn, k2, Int.toNat_natCast]
        have CA := c_BestPlan_1 hu hm ht hf5 hl hk hf
        rw [k2] at CA
        rw [e] at hp ⊢
        simp only [PT.size] at hp
        have us' := fun (b : Bool) => uk_set (b := bI b) (by cases b <;> simp [bI]) k1
        have u0 := us' false
        have u1 := us' true
        rw [bI_0] at u0
        rw [bI_1] at u1
        have G0 := bT_pf hu hm ht f (ks.set k 0) (place + 1) (by omega) (by simpa using hl) (kOk_set hk k false) (by omega) (by omega)
        have G1 := bT_pf hu hm ht f (ks.set k 1) (place + 1 + (bT us t f (ks.set k 0)).size) (by omega) (by simpa using hl) (kOk_set hk k true) (by omega) (by omega)
        have l0 := ser_len (bT us t f (ks.set k 0)) (place + 1)
        have l1 := ser_len (bT us t f (ks.set k 1)) (place + 1 + (bT us t f (ks.set k 0)).size)
        rw [← lay_ser]
        exact pf_stepB ht hm.2 hl hk hc k1 (by omega) CA G0 (by rw [l0]; exact G1)
set_option maxHeartbeats 4000000 in
theorem c_impl_BestPlan (us t : List T) (ha : (us.length : Int) < 1099511627776) (hb : (t.length : Int) < 1099511627776) : call lf n_impl_BestPlan [.sl 0 (us.map e2), .sl 0 (t.map e2)] = some (.tup [.fr 3 ((bpL us t).map e3), .b (bpOk us t)], []) := by
  have C1 := c_impl_TestsOk us ha
  have C2 := c_impl_TermOk us.length t hb
  have ul : (us.map e2).length = us.length := by simp
  rw [call_k lf n_impl_BestPlan _ (F := F_impl_BestPlan) rfl rfl]
  unfold bpL bpOk
  cases h1 : tsOk us with
  | false => rw [h1] at C1; simp [F_impl_BestPlan, C1]
  | true =>
    rw [h1] at C1
    have h' := tsOk_iff.1 h1
    cases h2 : tmOk us.length t with
    | false => rw [h2] at C2; simp [F_impl_BestPlan, C1, C2]
    | true =>
      rw [h2] at C2
      have hm : 1 ≤ us.length ∧ us.length ≤ 5 := by omega
      have C3 := c_startOf (t := t) hm.2 h2
      have C4 := c_averagesOf us
      have z := okT_size hm.2 (bX_ok (t := t) h'.2).1
      have C5 := bT_pf h'.2 hm h2 us.length (non us.length) 0 hm.2 (non_len _) (non_all _) (by rw [uk_non]; exact Nat.le_refl _) (by have : bT us t us.length (non us.length) = bX us t := rfl; rw [this]; omega)
      have e : bT us t us.length (non us.length) = bX us t := rfl
      rw [e] at C5
      have n3 := adopt_e3
      have nw := new_e3 (ser (bX us t) 0)
      have ad := fun x => adopt_e3 x (ser (bX us t) 0)
      simp only [Int.natCast_zero] at C5
      rw [Bool.and_self, if_pos rfl]
      generalize ser (bX us t) 0 = Q at *
      have lQ : (Q.map e3).length = Q.length := by simp
      have tk := tk_e3 Q
      generalize Q.map e3 = M at *
      unfold pD pv at *
      have cf : ∀ (f : Nat) (cs : List DV), (DV.fn f cs).cells = [.fn f cs] := fun _ _ => rfl
      have cd : DV.dead.cells = [.dead] := rfl
      simp [F_impl_BestPlan, C1, C2, C3, C4, C5, nw, ad, tk, lQ, cf, cd]
end
section
attribute [local simp] lend_e3 adopt_e3 new_e3 al_e3 lt_e3
theorem bpL_le31 (us t : List T) : (bpL us t).length ≤ 31 := by
  unfold bpL
  split
  · rename_i h
    unfold bpOk at h
    rw [Bool.and_eq_true] at h
    have h' := tsOk_iff.1 h.1
    rw [ser_len]
    exact okT_size (m := us.length) (by omega) (bX_ok (t := t) h'.2).1
  · simp
set_option maxHeartbeats 8000000 in
theorem law_FnExactBestPlan (y : List (Int × Int)) (hy : y.length ≤ Go.maxLen) (x : List (Int × Int)) (hx : x.length ≤ Go.maxLen) : call lf n_laws_FnExactBestPlan [rs2 y, rs2 x] = some (.b true, []) := by
  show call lf n_laws_FnExactBestPlan [.sl 0 (y.map e2), .sl 0 (x.map e2)] = _
  rw [call_k lf n_laws_FnExactBestPlan _ (F := F_laws_FnExactBestPlan) rfl rfl]
  have hz : (x.length : Int) ≤ 9223372036854775807 := by unfold Go.maxLen at hx; omega
  have hw : (y.length : Int) ≤ 9223372036854775807 := by unfold Go.maxLen at hy; omega
  have S := c_szTestS y 1048576 (by omega) (by omega) hw
  by_cases h : (1048576 : Int) < y.length
  · simp [F_laws_FnExactBestPlan, S, h]
  · have n1 : ¬ ((1048576 : Int) - y.length < 0) := by omega
    have S2 := c_szMarkS x (1048576 - y.length) (by omega) (by omega) hz
    by_cases h2 : (1048576 : Int) - y.length < x.length
    · simp [F_laws_FnExactBestPlan, S, h, n1, S2, h2]
    · have n2 : ¬ ((1048576 : Int) - y.length - x.length < 0) := by omega
      have A := c_toMarkS x (by omega)
      have Q := c_eqMarkS_self x (by omega)
      have A1 := c_toTestS y (by omega)
      have Q1 := c_eqTestS_self y (by omega)
      have C1 := c_impl_BestPlan y x (by omega) (by omega)
      have C2 := c_spec_BestPlan y x (by omega) (by omega)
      have M0 := c_markTestS y 1 (by omega) (by omega) (by omega)
      have M1 := c_markMarkS x (1 + 2 * y.length) (by omega) (by omega) (by omega)
      have lb0 : y.length ≤ bound := by unfold bound; omega
      have lb1 : x.length ≤ bound := by unfold bound; omega
      obtain ⟨v0, hv0, lv0⟩ := mk2_map 1 y.length
      obtain ⟨v, hv, lv⟩ := mk2_map (1 + 2 * y.length) x.length
      rw [hv0] at M0
      rw [hv] at M1
      have l0 : List.take y.length (v0.map e2) = v0.map e2 := tk_n (by simp [lv0])
      have l2 : List.take x.length (v.map e2) = v.map e2 := tk_n (by simp [lv])
      have n3 : ¬ ((1 : Int) + 2 * y.length + 2 * x.length < 0) := by omega
      have ll : (bpL y x).length ≤ 31 := bpL_le31 y x
      generalize bpL y x = w at *
      generalize bpOk y x = b at *
      have Q2 := c_eqChoiceS_self w (by omega)
      have M2 := c_markChoiceS w 1 (by omega) (by omega) (by omega)
      have H := c_heldChoiceS w.length 1 (by omega) (by omega) (by omega)
      have lb2 : w.length ≤ bound := by unfold bound; omega
      obtain ⟨u, hu, lu⟩ := mk3_map 1 w.length
      rw [hu] at M2 H
      have l1 : List.take w.length (u.map e3) = u.map e3 := tk_n (by simp [lu])
      have l3 : List.take w.length (w.map e3) = w.map e3 := tk_n (by simp)
      have n4 : ¬ ((1 : Int) + 3 * w.length < 0) := by omega
      simp (config := { maxSteps := 2000000 }) [F_laws_FnExactBestPlan, h, h2, S, S2, n1, n2, n3, n4, A, Q, A1, Q1, Q2, C1, C2, M0, M1, M2, H, l0, l1, l2, l3, lu, lv, lv0, lb0, lb1, lb2]
end
end Zz
