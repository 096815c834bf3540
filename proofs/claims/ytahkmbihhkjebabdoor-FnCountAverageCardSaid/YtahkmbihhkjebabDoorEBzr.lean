/- What the functions answer, as equations: EB. No conditions. -/
import Derived.Test.YtahkmbihhkjebabDoorEAzr
set_option linter.unusedSectionVars false
set_option linter.unusedVariables false
set_option linter.unusedSimpArgs false
namespace Zz
open Go.Lg Md
set_option linter.unusedSimpArgs false
set_option linter.unusedVariables false
attribute [local simp] tm_mv tm_newnil tm_pick tm_bin tm_eqb tm_eqs tm_un tm_len tm_lens tm_chk tm_fld tm_fldv tm_idxa tm_idx tm_load tm_store tm_slice tm_slices tm_make tm_alloc tm_box tm_build tm_app tm_conv tm_ext tm_call tm_calld tm_mkfn tm_mm tm_idxp tm_eqn tm_callg tm_callm tm_bslice0 tm_bslice1 tm_bslice2 tm_bslice nt_nil nt_cons nc_nil' nc_cons sa_mkfn cv_adr cv_i cv_y cv_b cv_w sa_calld nm_def nh_nil nh_cons nxM_some nxM_none sc_st sd_i sd_y sd_b sd_s sd_w sd_q sc_i sc_y sc_b sc_s sc_w sc_q sa_bslice sa_app nc_own nc_nil sa_call sa_alloc sa_build sa_callm rm_nil rm_one rm_gen bq_mul bq_eql ia_mv ia_newnil ia_pick ia_bin ia_eqb ia_eqs ia_un ia_len ia_lens ia_chk ia_fld ia_fldv ia_idxa ia_idx ia_load ia_store ia_slice ia_slices ia_make ia_alloc ia_box ia_build ia_bslice ia_app ia_b2i ia_i2b ia_i2i ia_same ia_b2s ia_s2b ia_ext ia_mm ia_idxp ia_calld ia_mkfn ia_i2r ia_r2s ia_call pt_nil pt_cons mi_nil mi_cons md_bslice md_mv md_newnil md_pick md_bin md_eqb md_un md_len md_lens md_fld md_fldv md_idxa md_idx md_load md_store md_slice md_slices md_make md_alloc md_box md_build md_app md_conv md_ext md_call md_calld md_callg md_mkfn md_mm md_idxp md_eqn md_eqs md_chk tg_bslice tg_mv tg_newnil tg_pick tg_bin tg_eqb tg_un tg_len tg_lens tg_fld tg_fldv tg_idxa tg_idx tg_load tg_store tg_slice tg_slices tg_make tg_alloc tg_box tg_build tg_app tg_conv tg_ext tg_call tg_calld tg_callg tg_mkfn tg_mm tg_idxp tg_eqn tg_eqs tg_chk rp_eq ro_eq ifP_t ifP_f np_def ng1_nil ng2_nil ng_gate ng_gen tgA_t tgA_0 tgA_1 tgA_2 aC_nil aC_c aC_t nxP_some nxP_none rq_nil rq_gen rq_gate nxR_some nxR_none ru_nil ru_gen ru_gate pl_none pl_some gt_nil gt_t gt_c di_some di_none an_nil an_cons nxG_some nxG_none rg_nil rg_gen rg_gate oldO_some oa_nil oa_i oa_y oa_b oa_s oa_st oa_sl oa_own oa_oad oa_nl al_nil al_cons al_i al_y al_b al_s al_st al_sl nxF_some nxF_none rf_nil rf_gen rf_gate hk_newnil hk_make hk_alloc hk_box hk_build hk_bslice hk_call hk_store hk_app hk_appn em_cel mm_cel ok_cel ov_cel so_cel il_cel oi_cel oj_cel ol_cel nm_cel hk_appc ef_bslice5 ef_app_cel ks_shut shu_own shc_none shc_cel cl_nil cl_cons ai_nil ai_cons il_i il_y il_b il_s il_st il_sl il_own il_adr il_oad il_ref il_fr il_tup il_nil il_np il_und il_dead ol_adr ol_b ol_dead ol_e ol_fn ol_fr ol_i ol_nil ol_np ol_oad ol_own ol_q ol_r ol_ref ol_s ol_sl ol_st ol_tup ol_und ol_w ol_y oj_e oj_i oj_y oj_b oj_s oj_st oj_sl oj_own oj_adr oj_oad oj_ref oj_fr oj_tup oj_nil oj_np oj_und oj_dead oj_w oj_q oj_r oj_fn oi_e oi_i oi_y oi_b oi_s oi_st oi_sl oi_own oi_adr oi_oad oi_ref oi_fr oi_tup oi_nil oi_np oi_und oi_dead as_nil as_cons ao_nil ao_cons av_i av_y av_b av_s av_st av_sl av_own av_adr av_oad av_ref av_fr av_tup av_nil av_np av_und av_dead pro_cons ghK_some ks_promote ks_freeze frz_own ks_rename ren_own dropO adoptP newP wholeP cutP allOldL ex_skip ex_ret ex_exit ks_region ks_seq ks_cond ks_block seqK_n seqK_e seqK_r regK_some condK_t condK_f blkK_n blkK_r blkK_e endK_n endK_r rr_false rr_true rd_free mo_nil mo_cons drK_some drK_none nxW_some nxW_none rw_nil rw_gen rw_gate ak_newnil ak_make ak_alloc ak_box ak_build ak_bslice ak_call ak_store ak_app iw_mm iw_eqn iw_idxp ef_callg cgK_some gv_e gv_own gv_i gv_sl gv_st gv_b gv_nil gvK_some gvO_some iw_callg ia_callg ak_callg hk_callg is_mv is_newnil is_pick is_bin is_eqb is_eqs is_un is_len is_lens is_chk is_fld is_fldv is_idxa is_idx is_load is_slice is_slices is_make is_alloc is_box is_build is_bslice is_app is_conv is_ext is_call is_calld is_callg is_mkfn is_mm is_idxp is_eqn is_store rt_nil rt_gen rt_gate nxT_some nxT_none ef_eqn_nil ef_eqn_sl ef_eqn_own ia_eqn ef_mmx ef_mmn ef_idxp nxD_some nxD_none ov_i ov_y ov_b ov_s ov_st ov_sl ov_own ov_oad ov_adr ov_nil ov_np ov_und ov_dead ov_tup oldN_some oldN_nil oldN_none so_none so_i so_y so_b so_s so_st so_sl so_adr so_nil so_np so_und so_dead anyM_nil anyM_t anyM_c so_own so_oad rd_nil rd_gen rd_mv rd_gate iw_mv iw_newnil iw_pick iw_bin iw_eqb iw_eqs iw_un iw_len iw_lens iw_chk iw_fld iw_fldv iw_idxa iw_idx iw_load iw_store iw_slice iw_slices iw_make iw_alloc iw_box iw_build iw_bslice iw_app iw_b2i iw_i2b iw_i2i iw_same iw_b2s iw_s2b iw_ext iw_call nm_i nm_y nm_b nm_s nm_st nm_sl nm_own nm_oad nm_adr nm_nil nm_np nm_und nm_dead nm_tup rl_nil rl_gate rl_mv rl_gen opv_t opv_c nx_some nx_none gate_tt gate_tf gate_ft gate_ff gate_u fr_ap em_nil em_i em_y em_b em_s em_st em_sl em_own em_adr em_oad em_ref em_nl em_np em_und em_dead em_tup0 em_tup_i em_tup_b em_tup_s em_tup_sl em_tup_st em_tup_np em_tup_own em_tup_oad mm_i mm_y mm_b mm_s mm_st mm_sl mm_own mm_oad mm_adr mm_nil mm_np mm_und mm_dead ef_mv ef_newnil ef_pickt ef_pickf ef_bin ef_eqb ef_eqs ef_un ef_lens ef_len_sl ef_len_own ef_len_nil ef_chk_adr ef_chk_oad ef_fld_adr ef_fld_oad ef_fldv idxR_some ef_idxa_sl ef_idxa_own ef_idx ef_load_adr_st ef_load_adr_i ef_load_adr_y ef_load_adr_b ef_load_adr_s ef_load_adr_sl atN_nil atN_zero atN_succ ef_load_oad ef_store ef_slice ef_slices ef_make ef_alloc ef_box ef_build ef_bslice ef_app_own ef_app_nil ef_b2i ef_i2b ef_i2i ef_same ef_ext ret1 ret2_some calL_some ef_call retC_i retC_y retC_b retC_s retC_st retC_sl retC_np retC_fr retC_ref retC_tup rk_nil rk_i rk_y rk_b rk_s rk_st rk_sl rk_own rk_oad rk_nl ok_nil ok_i ok_y ok_b ok_s ok_st ok_sl ok_own ok_oad ok_nl lo_nil lo_i lo_y lo_b lo_s lo_st lo_sl lo_own lo_oad lo_nl pr_nil pr_i pr_y pr_b pr_s pr_st pr_sl pr_own pr_nl pr_oad nr_i nr_y nr_b nr_s nr_st nr_sl nr_fr nr_np nr_tup ng_i ng_b ng_s ng_fr ng_nil resV effP_eff binD bi_add bi_sub bi_mul bi_quo bi_rem bi_eql bi_neq bi_lss bi_leq bi_gtr bi_geq bi_shl bi_shr bi_and bi_or bi_xor bi_andNot binY binS unD look put putD LS.get LS.drop killE sweep lookO putO dropO enter leave giveBackL giveBack outs lendArgs lendArg newOuts takeIn takeInL lendL DV.lend adoptL DV.adopt elems apartKs part DV.cells unpart settle settleL over mkId szId fillP fillE tk_e2 tk_i tk_y lt_e2 lt_i lt_y lend_rep al_e2 al_is al_ys al_rep al_app lend_app adopt_app new_app lend_e2 lend_i lend_y adopt_e2 adopt_i adopt_y new_e2 new_i allNewL DV.allNew bounds sliceD sliceS em_w em_q em_r em_fn em_tup_w em_tup_q em_tup_r mm_w mm_q mm_r mm_fn ef_load_adr_w ef_load_adr_q ef_load_adr_r retC_w retC_q retC_r rk_w rk_q rk_r rk_fn ok_w ok_q ok_r ok_fn lo_w lo_q lo_r lo_fn pr_w pr_q pr_r pr_fn nr_w nr_q nr_r ng_w ng_q ng_r oa_w oa_q oa_r oa_fn al_w al_q al_r al_fn ov_w ov_q ov_r ov_fn so_w so_q so_r so_fn il_w il_q il_r il_fn oi_w oi_q oi_r oi_fn av_w av_q av_r av_fn nm_w nm_q nm_r nm_fn ef_i2r ef_r2s ef_mkfn ef_mkbd ef_idxp_adr ef_idxp_q ef_calld_nil ef_calld_adr ef_calld_bd DV.capB capsOk DV.cell List.all_cons List.all_nil rk_own_t lo_own_t lk_f lk_t pr_own_t mutB ak_calld hk_calld iw_calld iw_mkfn iw_i2r iw_r2s bw_and bw_or bw_xor bw_andNot bw_eql bw_neq sw_shl sw_shr sq_shl gEnv_nil rk_adr ok_adr lo_adr pr_adr oa_adr capL capArg DV.cap ak_mkfn hk_mkfn hk_mkbd ef_callm gf_ap ga_nil ga_cons tgv_own gk_e gk_giv gk_i gk_y gk_b gk_s gk_w gk_q gk_r gk_fn gk_st gk_sl gk_own gk_oad gk_adr gk_nl gk_np rk_giv ok_giv lo_giv pr_giv oa_giv iw_callm hk_callm ak_callm is_callm ia_callm tg_callm md_callm ef_i2q ef_q2i ef_q2q iw_i2q iw_q2i iw_q2q ia_i2q ia_q2i ia_q2q bq_and bq_add bq_shr sq_shr tgv_nil gk_ref rk_ref ok_ref lo_ref pr_ref oa_ref retC_fn nr_fn ef_load_adr_fn ks_close cls_oad
attribute [local congr] nxM_congr ifP_congr nxP_congr nxR_congr nxT_congr nxG_congr nxF_congr ghK_congr gate_congr nx_congr nxD_congr runL_congr runD_congr eff_congr calL_congr ret2_congr seqK_congr regK_congr condK_congr endK_congr drK_congr nxW_congr
attribute [local simp ↓] nxM_some rm_nil rm_one rm_gen nxT_some rt_nil rt_gen rt_gate nxP_some rq_nil rq_gen rq_gate nxR_some ru_nil ru_gen ru_gate nxG_some rg_nil rg_gen rg_gate nxF_some rf_nil rf_gen rf_gate ks_promote ks_freeze frz_own ks_rename ghK_some gate_tt gate_tf gate_ft gate_ff gate_u nx_some nxD_some rl_nil rl_mv rl_gen rl_gate rd_nil rd_mv rd_gen rd_gate rd_free rr_false rr_true drK_some drK_none nxW_some rw_nil rw_gen rw_gate ks_region ks_seq ks_cond ks_block seqK_n seqK_e seqK_r regK_some condK_t condK_f blkK_n blkK_r endK_n endK_r calL_some ret2_some opv_t opv_c
section
attribute [-simp] DV.cells
attribute [local simp] sliceD cells_st cells_sl cells_i cells_y cells_b cells_s cells_w
theorem nxL_nx {us : List T} (h : tsOk us = true) {so k : Nat} (hs : so < 2 ^ us.length) (h1 : 1 ≤ k) (hk : k ≤ hdN us.length so) : nxL us so k = (nx us so k : Nat) := by
  have : nxOk us so k = true := nxOk_iff.2 ⟨h, ⟨by omega, by
    have : ((2 : Int) ^ us.length) = ((2 ^ us.length : Nat) : Int) := by simp
    omega⟩, by omega, by rw [Int.toNat_natCast]; omega⟩
  unfold nxL
  rw [this, if_pos rfl, Int.toNat_natCast, Int.toNat_natCast]
set_option maxHeartbeats 8000000 in
theorem c_spec_l8Rule {us : List T} (h : tsOk us = true) : ∀ (n so k : Nat) (u : Int), hdN us.length so = n → so < 2 ^ us.length → k ≤ 10 → 1 ≤ u → u * 6 ^ n ≤ 7776 →
    call lf n_spec_l8Rule [.sl 0 (us.map e2), .i so, .i k, .i (u * 6 ^ n)] = some (.i (u * vS us so k), [])
  | n, so, k, u, hn, hs, hk, hu, hw => by
    have ht := tsOk_iff.1 h
    have h5 : us.length ≤ 5 := by omega
    obtain ⟨p0, p1, p2⟩ := pow5 (m := us.length) (by omega) (by omega)
    rw [Int.toNat_natCast] at p0 p1 p2
    have H := c_spec_l8Heads (n := so) (by omega)
    rw [pcs h5 hs, hn] at H
    by_cases hz : k = 0 ∨ n < k
    · rw [vS_zero us (by rw [hn]; exact hz), Int.mul_zero]
      rw [call_k lf n_spec_l8Rule _ (F := F_spec_l8Rule) rfl rfl]
      by_cases c : k = 0
      · subst c
        simp [F_spec_l8Rule]
      · have c1 : ((k : Int) == 0) = false := beq_eq_false_iff_ne.2 (by omega)
        have c2 : (n : Int) < k := by omega
        have c3 : n < k := by omega
        generalize u * 6 ^ n = W at *
        simp [F_spec_l8Rule, H, c1, c2, c3, c]
    · have k1 : 1 ≤ k := by omega
      have kn : k ≤ n := by omega
      obtain ⟨f, rfl⟩ : ∃ f, n = f + 1 := ⟨n - 1, by omega⟩
      have xp : (0 : Int) < 6 ^ f := Int.pow_pos (by omega)
      have x1 : u * 6 ^ (f + 1) = u * 6 ^ f * 6 := by rw [Int.pow_succ, Int.mul_assoc]
      have un : 0 < u * 6 ^ f := Int.mul_pos (by omega) xp
      have N := c_spec_NextInCount us so k (by omega)
      rw [nxL_nx h hs k1 (by omega)] at N
      obtain ⟨hi, hb, _⟩ := nx_ok ht.2 h5 k1 (show k ≤ hdN us.length so by omega)
      rw [vS_step ht.2 h5 hs k1 (by omega)]
      generalize nx us so k = i at *
      have hi' : (i : Int) < us.length := by omega
      have hj : i ∈ Sl us.length so := Sl_mem.2 ⟨hi, hb⟩
      have hd := hdN_sub h5 hs hj
      have s2 := sub_lt (j := i) hs
      obtain ⟨c, q, a1, a2, ec, eq, cb, qb⟩ := us_cell ht.2 hi
      have G1 := c_spec_l8Rule h f (so - 2 ^ i) (k - 1) (u * q) (by omega) s2 (by omega) (by have := Int.mul_le_mul hu qb.1 (by omega) (by omega); omega) (by
        have : u * q * 6 ^ f = u * 6 ^ f * q := by grind
        rw [this]
        have := Int.mul_le_mul_of_nonneg_left (show q ≤ 6 by omega) (Int.le_of_lt un)
        omega)
      have G0 := c_spec_l8Rule h f (so - 2 ^ i) k (u * (6 - q)) (by omega) s2 (by omega) (by have := Int.mul_le_mul hu (show 1 ≤ 6 - q by omega) (by omega) (by omega); omega) (by
        have : u * (6 - q) * 6 ^ f = u * 6 ^ f * (6 - q) := by grind
        rw [this]
        have := Int.mul_le_mul_of_nonneg_left (show 6 - q ≤ 6 by omega) (Int.le_of_lt un)
        omega)
      have y1 : u * q * 6 ^ f = u * 6 ^ f * q := by grind
      have y0 : u * (6 - q) * 6 ^ f = u * 6 ^ f * (6 - q) := by grind
      rw [y1] at G1
      rw [y0] at G0
      have v1 := vS_bd ht.2 h5 (so - 2 ^ i) (k - 1)
      have v0 := vS_bd ht.2 h5 (so - 2 ^ i) k
      rw [show hdN us.length (so - 2 ^ i) = f by omega] at v0 v1
      have ew : u * wS us so k i = u * 6 ^ (f + 1) * c + u * q * vS us (so - 2 ^ i) (k - 1) + u * (6 - q) * vS us (so - 2 ^ i) k := by
        unfold wS
        rw [hn, ← ec, ← eq]
        grind
      have q1 : 0 ≤ u * 6 ^ (f + 1) * c ∧ u * 6 ^ (f + 1) * c ≤ 7776 * 9 := ⟨Int.mul_nonneg (by omega) (by omega), Int.mul_le_mul hw (by omega) (by omega) (by omega)⟩
      have r1 : 0 ≤ u * q * vS us (so - 2 ^ i) (k - 1) ∧ u * q * vS us (so - 2 ^ i) (k - 1) ≤ 7776 * 45 := by
        refine ⟨Int.mul_nonneg (Int.mul_nonneg (by omega) (by omega)) v1.1, ?_⟩
        have m1 := Int.mul_le_mul_of_nonneg_left v1.2 (show 0 ≤ u * q from Int.mul_nonneg (by omega) (by omega))
        have m2 : u * q * (6 ^ f * 45) = u * 6 ^ f * q * 45 := by grind
        have m3 := Int.mul_le_mul_of_nonneg_left (show q ≤ 6 by omega) (Int.le_of_lt un)
        omega
      have r0 : 0 ≤ u * (6 - q) * vS us (so - 2 ^ i) k ∧ u * (6 - q) * vS us (so - 2 ^ i) k ≤ 7776 * 45 := by
        refine ⟨Int.mul_nonneg (Int.mul_nonneg (by omega) (by omega)) v0.1, ?_⟩
        have m1 := Int.mul_le_mul_of_nonneg_left v0.2 (show 0 ≤ u * (6 - q) from Int.mul_nonneg (by omega) (by omega))
        have m2 : u * (6 - q) * (6 ^ f * 45) = u * 6 ^ f * (6 - q) * 45 := by grind
        have m3 := Int.mul_le_mul_of_nonneg_left (show 6 - q ≤ 6 by omega) (Int.le_of_lt un)
        omega
      rw [ew]
      have t6 : (u * 6 ^ (f + 1)).tdiv 6 = u * 6 ^ f := by rw [x1]; exact Int.mul_tdiv_cancel _ (by omega)
      have sh := shl_nat (k := i) (by omega)
      have b1 := bit_sub hb
      have w2 : wr ((so : Int) - ((2 ^ i : Nat) : Int)) = ((so - 2 ^ i : Nat) : Int) := by rw [wr_id (by omega) (by omega)]; omega
      have w3 : wr ((k : Int) - 1) = ((k - 1 : Nat) : Int) := by rw [wr_id (by omega) (by omega)]; omega
      have w4 : wr (6 - q) = 6 - q := wr_id (by omega) (by omega)
      have n1 : 0 ≤ u * 6 ^ f * q ∧ u * 6 ^ f * q ≤ 7776 := ⟨Int.mul_nonneg (by omega) (by omega), by have := Int.mul_le_mul_of_nonneg_left (show q ≤ 6 by omega) (Int.le_of_lt un); omega⟩
      have n0 : 0 ≤ u * 6 ^ f * (6 - q) ∧ u * 6 ^ f * (6 - q) ≤ 7776 := ⟨Int.mul_nonneg (by omega) (by omega), by have := Int.mul_le_mul_of_nonneg_left (show 6 - q ≤ 6 by omega) (Int.le_of_lt un); omega⟩
      have c1 : ((k : Int) == 0) = false := beq_eq_false_iff_ne.2 (by omega)
      have c2 : ¬ ((f + 1 : Nat) : Int) < k := by omega
      have c3 : ¬ f + 1 < k := by omega
      have ni : ¬ (i : Int) < 0 := by omega
      generalize u * 6 ^ (f + 1) = W at *
      generalize u * 6 ^ f = X at *
      generalize u * q * vS us (so - 2 ^ i) (k - 1) = R1 at *
      generalize u * (6 - q) * vS us (so - 2 ^ i) k = R0 at *
      generalize (so - 2 ^ i : Nat) = so' at *
      generalize (2 ^ i : Nat) = tp at *
      have w5 : wr (W * c) = W * c := wr_id (by omega) (by omega)
      have w6 : wr X = X := wr_id (by omega) (by omega)
      have w7 : wr (X * q) = X * q := wr_id (by omega) (by omega)
      have w8 : wr (X * (6 - q)) = X * (6 - q) := wr_id (by omega) (by omega)
      have w9 : wr (W * c + R1) = W * c + R1 := wr_id (by omega) (by omega)
      have w10 : wr (W * c + R1 + R0) = W * c + R1 + R0 := wr_id (by omega) (by omega)
      generalize (k - 1 : Nat) = k' at *
      generalize f + 1 = g at *
      rw [call_k lf n_spec_l8Rule _ (F := F_spec_l8Rule) rfl rfl]
      simp [F_spec_l8Rule, H, c1, c2, c3, N, hi, hi', ni, a1, a2, sh, w2, w3, w4, w5, w6, w7, w8, w9, w10, t6, G0, G1, -Int.natCast_pow]
theorem c_spec_CountAverage (us : List T) (k : Int) (ha : (us.length : Int) < 1099511627776) : call lf n_spec_CountAverage [.sl 0 (us.map e2), .i k] = some (.i (cvL us k), []) := by
  have C1 := c_spec_CountOk us k ha
  rw [call_k lf n_spec_CountAverage _ (F := F_spec_CountAverage) rfl rfl]
  unfold cvL
  cases h : ctOk us k with
  | false =>
    rw [h] at C1
    simp [F_spec_CountAverage, C1]
  | true =>
    rw [h] at C1
    obtain ⟨h1, k1, k2⟩ := ctOk_iff.1 h
    obtain ⟨n, rfl⟩ := Int.eq_ofNat_of_zero_le (show 0 ≤ k by omega)
    have ht := tsOk_iff.1 h1
    obtain ⟨p0, p1, p2⟩ := pow5 (m := us.length) (by omega) (by omega)
    rw [Int.toNat_natCast] at p0 p1 p2 ⊢
    have ln : ¬ ((us.length : Nat) : Int) < 0 := by omega
    have sh : shlI 1 (us.length : Nat) = ((2 ^ us.length : Nat) : Int) := shl_nat (by omega)
    have w1 : wr (((2 ^ us.length : Nat) : Int) - 1) = ((2 ^ us.length - 1 : Nat) : Int) := by rw [wr_id (by omega) (by omega)]; omega
    have P := c_spec_l1Power (n := us.length) (by omega)
    have pb := p6 (n := us.length) (by omega)
    have G := c_spec_l8Rule h1 us.length (2 ^ us.length - 1) n 1 (full_hd (by omega)) (by omega) (by omega) (by omega) (by omega)
    rw [Int.one_mul, Int.one_mul] at G
    generalize (2 ^ us.length - 1 : Nat) = a at *
    generalize (2 ^ us.length : Nat) = b at *
    generalize vS us a n = V at *
    generalize (6 : Int) ^ us.length = s at *
    simp [F_spec_CountAverage, C1, sh, ln, w1, P, G]
theorem c_CountAverage_1 {us : List T} (h : tsOk us = true) {so k : Nat} (hs : so < 2 ^ us.length) (h1 : 1 ≤ k) (hk : k ≤ hdN us.length so) :
    call lf n_impl_CountAverage_1 [.i so, .i k, .adr (.sl 0 (us.map e2))] = some (.i ((2 ^ nx us so k : Nat) : Int), []) := by
  have ht := tsOk_iff.1 h
  have N := c_impl_NextInCount us so k (by omega)
  rw [nxL_nx h hs h1 hk] at N
  have hn := (nx_ok ht.2 (by omega) h1 hk).1
  have sh := shl_nat (k := nx us so k) (by omega)
  generalize nx us so k = i at *
  have ni : ¬ (i : Int) < 0 := by omega
  rw [call_k lf n_impl_CountAverage_1 _ (F := F_impl_CountAverage_1) rfl rfl]
  simp [F_impl_CountAverage_1, N, sh, ni, -Int.natCast_pow]
def stLtA (us : List T) (so k mk : Nat) (b : Int) (i : Nat) : LS := ⟨[(0, .sl 0 (us.map e2)), (1, .i so), (2, .i k), (3, .fn n_impl_CountAverage_1 [.adr (.sl 0 (us.map e2))]), (9, .i mk), (10, .i b), (29, .sl 0 (us.map e2)), (30, .i us.length), (31, .i i)], []⟩
set_option maxHeartbeats 8000000 in
theorem c_leastToCountA {us : List T} (h : tsOk us = true) : ∀ (n so k : Nat), hdN us.length so = n → so < 2 ^ us.length → k ≤ 10 →
    call lf n_impl_leastToCount [.sl 0 (us.map e2), .i so, .i k, .fn n_impl_CountAverage_1 [.adr (.sl 0 (us.map e2))]] = some (.i (vS us so k), [])
  | n, so, k, hn, hs, hk => by
    have ht := tsOk_iff.1 h
    have h5 : us.length ≤ 5 := by omega
    obtain ⟨p0, p1, p2⟩ := pow5 (m := us.length) (by omega) (by omega)
    rw [Int.toNat_natCast] at p0 p1 p2
    have H := c_impl_sizeOf (n := so) (by omega)
    rw [pcs h5 hs, hn] at H
    by_cases hz : k = 0 ∨ n < k
    · rw [vS_zero us (by rw [hn]; exact hz)]
      rw [call_k lf n_impl_leastToCount _ (F := F_impl_leastToCount) rfl rfl]
      by_cases c : k = 0
      · subst c
        simp [F_impl_leastToCount]
      · have c1 : ((k : Int) == 0) = false := beq_eq_false_iff_ne.2 (by omega)
        have c2 : (n : Int) < k := by omega
        have c3 : n < k := by omega
        simp [F_impl_leastToCount, H, c1, c2, c3, c]
    · have k1 : 1 ≤ k := by omega
      have kn : k ≤ n := by omega
      obtain ⟨f, rfl⟩ : ∃ f, n = f + 1 := ⟨n - 1, by omega⟩
      obtain ⟨mk, MC, mlt, msub, mnx⟩ : ∃ mk : Nat, call lf n_impl_CountAverage_1 [.i so, .i k, .adr (.sl 0 (us.map e2))] = some (.i mk, []) ∧ mk ≤ 4294967296 ∧ (∀ j, j < us.length → mk.testBit j = true → so.testBit j = true) ∧ mk.testBit (nx us so k) = true := ⟨2 ^ nx us so k, c_CountAverage_1 (us := us) h hs k1 (show k ≤ hdN us.length so by omega), by have p := (nx_ok ht.2 h5 k1 (show k ≤ hdN us.length so by omega)).1; exact Nat.le_trans (Nat.pow_le_pow_right (by omega) (show nx us so k ≤ 5 by omega)) (by decide), fun j _ q => by rw [Nat.testBit_two_pow] at q; have e := of_decide_eq_true q; rw [← e]; exact (nx_ok ht.2 h5 k1 (by omega)).2.1, by rw [Nat.testBit_two_pow]; simp⟩
      have LP := loop_count (lf := lf) (L := F_impl_leastToCount_L0) us.length (fun i => stLtA us so k mk (mnW us so k mk i) i) (x := .exit 0) (R := stLtA us so k mk (mnW us so k mk us.length) us.length) (fun i hi => by
        have w1 : wr ((i : Int) + 1) = ((i + 1 : Nat) : Int) := by rw [wr_id (by omega) (by omega)]; omega
        have hi' : (i : Int) < us.length := by omega
        obtain ⟨c, q, a1, a2, ec, eq, cb, qb⟩ := us_cell ht.2 hi
        have HT := c_impl_hasTest mk i (by omega)
        cases hb : mk.testBit i with
        | false =>
          rw [mn_skip us so k mk i hb]
          rw [hb] at HT
          generalize mnW us so k mk i = b at *
          unfold stLtA
          simp [F_impl_leastToCount_L0, hi, hi', a1, a2, HT, w1, -Int.natCast_add]
        | true =>
          have hsb := msub i hi hb
          have hj : i ∈ Sl us.length so := Sl_mem.2 ⟨hi, hsb⟩
          have hd := hdN_sub h5 hs hj
          have s2 := sub_lt (j := i) hs
          have G1 := c_leastToCountA h f (so - 2 ^ i) (k - 1) (by omega) s2 (by omega)
          have G0 := c_leastToCountA h f (so - 2 ^ i) k (by omega) s2 (by omega)
          have v1 := vS_up ht.2 h5 (so - 2 ^ i) (k - 1)
          have v0 := vS_up ht.2 h5 (so - 2 ^ i) k
          have A := c_averageAsking (n := f + 1) (by have := hd_le us.length so; omega) cb qb (no := vS us (so - 2 ^ i) k) (yes := vS us (so - 2 ^ i) (k - 1)) (by omega) (by omega)
          have ew : wS us so k i = c * 6 ^ (f + 1) + (6 - q) * vS us (so - 2 ^ i) k + q * vS us (so - 2 ^ i) (k - 1) := by
            unfold wS
            rw [hn, ← ec, ← eq]
          rw [← ew] at A
          rw [mn_step us so k mk i hb]
          have sh : shlI 1 (i : Nat) = ((2 ^ i : Nat) : Int) := by rw [shl1 (by omega) (by omega), Int.toNat_natCast]; simp
          have an := andNot_bit (a := so) (k := i) (by omega) (by omega) hsb
          have w3 : wr ((k : Int) - 1) = ((k - 1 : Nat) : Int) := by rw [wr_id (by omega) (by omega)]; omega
          have ni : ¬ (i : Int) < 0 := by omega
          rw [hb] at HT
          clear ew
          generalize wS us so k i = s at *
          generalize vS us (so - 2 ^ i) k = x0 at *
          generalize vS us (so - 2 ^ i) (k - 1) = x1 at *
          generalize (so - 2 ^ i : Nat) = so' at *
          generalize (2 ^ i : Nat) = tp at *
          generalize mnW us so k mk i = b at *
          generalize (k - 1 : Nat) = k' at *
          generalize f + 1 = g at *
          unfold stLtA
          by_cases d1 : b = -1
          · rw [if_pos (.inl d1)]
            subst d1
            simp [F_impl_leastToCount_L0, hi, hi', ni, a1, a2, HT, sh, an, H, A, w1, w3, G0, G1, -Int.natCast_add, -Int.natCast_pow]
          · have d1' : (b == -1) = false := beq_eq_false_iff_ne.2 d1
            by_cases d2 : s < b
            · rw [if_pos (.inr d2)]
              simp [F_impl_leastToCount_L0, hi, hi', ni, a1, a2, HT, sh, an, H, A, w1, w3, G0, G1, d1', d2, -Int.natCast_add, -Int.natCast_pow]
            · rw [if_neg (fun q => q.elim d1 d2)]
              simp [F_impl_leastToCount_L0, hi, hi', ni, a1, a2, HT, sh, an, H, A, w1, w3, G0, G1, d1', d2, -Int.natCast_add, -Int.natCast_pow]) (by
        generalize mnW us so k mk us.length = b at *
        unfold stLtA
        simp [F_impl_leastToCount_L0]) (by simp)
      have a := mn_all (us := us) (so := so) (k := k) (mk := mk) ht.2 h5 hs k1 (by omega) msub mnx
      have z : mnW us so k mk 0 = -1 := rfl
      rw [a, z] at LP
      unfold stLtA at LP
      simp only [Int.natCast_zero] at LP
      change ex lf F_impl_leastToCount_W0 _ = _ at LP
      have c1 : ((k : Int) == 0) = false := beq_eq_false_iff_ne.2 (by omega)
      have c2 : ¬ ((f + 1 : Nat) : Int) < k := by omega
      have c3 : ¬ f + 1 < k := by omega
      generalize vS us so k = V at *
      generalize f + 1 = g at *
      rw [call_k lf n_impl_leastToCount _ (F := F_impl_leastToCount) rfl rfl]
      simp [F_impl_leastToCount, H, c1, c2, c3, MC, LP]
theorem c_impl_CountAverage (us : List T) (k : Int) (ha : (us.length : Int) < 1099511627776) : call lf n_impl_CountAverage [.sl 0 (us.map e2), .i k] = some (.i (cvL us k), []) := by
  have C1 := c_impl_CountOk us k ha
  rw [call_k lf n_impl_CountAverage _ (F := F_impl_CountAverage) rfl rfl]
  unfold cvL
  cases h : ctOk us k with
  | false =>
    rw [h] at C1
    simp [F_impl_CountAverage, C1]
  | true =>
    rw [h] at C1
    obtain ⟨h1, k1, k2⟩ := ctOk_iff.1 h
    obtain ⟨n, rfl⟩ := Int.eq_ofNat_of_zero_le (show 0 ≤ k by omega)
    have ht := tsOk_iff.1 h1
    obtain ⟨p0, p1, p2⟩ := pow5 (m := us.length) (by omega) (by omega)
    rw [Int.toNat_natCast] at p0 p1 p2 ⊢
    have A := c_impl_allOf h1
    have G := c_leastToCountA h1 us.length (2 ^ us.length - 1) n (full_hd (by omega)) (by omega) (by omega)
    generalize (2 ^ us.length - 1 : Nat) = a at *
    generalize vS us a n = V at *
    simp [F_impl_CountAverage, C1, A, G]
end
section
attribute [-simp] DV.cells
attribute [local simp] sliceD cells_st cells_sl cells_i cells_y cells_b cells_s cells_w
theorem tl_other {us : List T} {a b : Nat} (ha : a < us.length) (hb : b < us.length) : tltA (us.map other) a b = tltB us a b ∧ tltB (us.map other) a b = tltA us a b := by
  unfold tltA tltB
  rw [cA_other, cA_other, pA_other ha, pA_other hb]
  exact ⟨rfl, by congr 1; simp only [show ∀ z : Int, 6 - (6 - z) = z from fun z => by omega]⟩
theorem nx_other {us : List T} {so k : Nat} (h1 : 1 ≤ k) (hk : k ≤ hdN us.length so) : nx (us.map other) so (hdN us.length so - k + 1) = nx us so k := by
  have e : bothL (us.map other) (Sl us.length so) (hdN us.length so - k + 1) = bothL us (Sl us.length so) k := by
    unfold bothL
    refine List.filter_congr fun i hi => ?_
    have hi' := (Sl_mem.1 hi).1
    have r1 : rk (tltA (us.map other)) (Sl us.length so) i = rk (tltB us) (Sl us.length so) i := by
      unfold rk
      exact List.countP_congr fun x hx => by rw [(tl_other (Sl_mem.1 hx).1 hi').1]
    have r2 : rk (tltB (us.map other)) (Sl us.length so) i = rk (tltA us) (Sl us.length so) i := by
      unfold rk
      exact List.countP_congr fun x hx => by rw [(tl_other (Sl_mem.1 hx).1 hi').2]
    rw [r1, r2, Sl_len, Bool.and_comm]
    congr 1
    · exact decide_eq_decide.2 (by omega)
    · exact decide_eq_decide.2 (by omega)
  show (bothL (us.map other) (Sl (us.map other).length so) (hdN us.length so - k + 1)).headD 0 = (bothL us (Sl us.length so) k).headD 0
  rw [List.length_map, e]
theorem hdN_succ (i s : Nat) : hdN (i + 1) s = hdN i s + if s.testBit i then 1 else 0 := by
  unfold hdN
  rw [List.range_succ, List.countP_append]
  simp [List.countP_cons]
def stNl (us : List T) (s n k : Int) (l i : Nat) : LS := ⟨[(3, .own 7185 us.length 0 us.length), (4, .i s), (5, .i k), (6, .i n), (7, .i l), (8, .i i)], [(7185, us.map e2)]⟩
set_option maxHeartbeats 8000000 in
theorem law_FnNextInCount (x : List Nat) (_ : x.length ≤ Go.maxLen) (hb : ∀ y ∈ x, y < 256) : call lf n_laws_FnNextInCount [bys x] = some (.b true, []) := by
  show call lf n_laws_FnNextInCount [.sl 0 (x.map .y)] = _
  rw [call_k lf n_laws_FnNextInCount _ (F := F_laws_FnNextInCount) rfl rfl]
  by_cases hl : 1048576 < (x.length : Int)
  · simp (config := { maxSteps := 2000000 }) [F_laws_FnNextInCount, hl]
  · obtain ⟨us, so, k, u1, s1, k1, d⟩ := c_DrawNextInCount hb (by omega)
    have D1 := c_impl_NextInCount us so k (by omega)
    have D2 := c_spec_NextInCount us so k (by omega)
    have lb1 : us.length ≤ bound := by unfold bound; omega
    have tk1 := tk_e2 us
    cases h : nxOk us so k with
    | false =>
      have e : nxL us so k = -1 := by unfold nxL; rw [h]; rfl
      rw [e] at D1 D2
      simp (config := { maxSteps := 2000000 }) [F_laws_FnNextInCount, hl, d, D1, D2, lb1, tk1, c_alive]
    | true =>
      obtain ⟨h1, hs, k2, k3⟩ := nxOk_iff.1 h
      rw [Int.toNat_natCast] at k3
      obtain ⟨n, rfl⟩ := Int.eq_ofNat_of_zero_le (show 0 ≤ k by omega)
      have ht := tsOk_iff.1 h1
      have h5 : us.length ≤ 5 := by omega
      obtain ⟨p0, p1, p2⟩ := pow5 (m := us.length) (by omega) (by omega)
      rw [Int.toNat_natCast] at p0 p1 p2
      have hs' : so < 2 ^ us.length := by omega
      have n1 : 1 ≤ n := by omega
      have n2 : n ≤ hdN us.length so := by omega
      have hd := hd_le us.length so
      rw [nxL_nx h1 hs' n1 n2] at D1 D2
      obtain ⟨x1, x2, _⟩ := nx_ok ht.2 h5 n1 n2
      have O := c_impl_OtherTests us (by omega)
      have eo : others us = us.map other := by unfold others; rw [h1]; rfl
      rw [eo] at O
      have ho : tsOk (us.map other) = true := by
        unfold tsOk
        rw [List.length_map, others_all ht.2]
        simp [nOk]; omega
      have W := c_impl_NextInCount (us.map other) so ((hdN us.length so - n + 1 : Nat) : Int) (by rw [List.length_map]; omega)
      rw [nxL_nx ho (by rw [List.length_map]; exact hs') (by omega) (by rw [List.length_map]; omega), nx_other n1 n2] at W
      have w1 : wr ((hdN us.length so : Nat) - (n : Int)) = ((hdN us.length so - n : Nat) : Int) := by rw [wr_id (by omega) (by omega)]; omega
      have w2 : wr (((hdN us.length so - n : Nat) : Int) + 1) = ((hdN us.length so - n + 1 : Nat) : Int) := by rw [wr_id (by omega) (by omega)]; omega
      have br := bit_rem (so := so) (i := nx us so n) (by omega)
      rw [x2] at br
      have z : (bI true == 1) = true := rfl
      have hL : (us.map e2).length = us.length := by simp
      have L := loop_count (lf := lf) (L := F_laws_FnNextInCount_L0) us.length (fun i => stNl us so (nx us so n) n (hdN i so) i) (x := .exit 0) (R := stNl us so (nx us so n) n (hdN us.length so) us.length) (fun i hi => by
        have b := bit_rem (so := so) (i := i) (by omega)
        have ni : ¬ (i : Int) < 0 := by omega
        have w3 : wr ((i : Int) + 1) = ((i + 1 : Nat) : Int) := by rw [wr_id (by omega) (by omega)]; omega
        have hi' : (i : Int) < us.length := by omega
        have hdi := hd_le i so
        have w4 : wr ((hdN i so : Nat) + bI (so.testBit i)) = ((hdN (i + 1) so : Nat) : Int) := by
          rw [hdN_succ]
          cases so.testBit i with
          | false =>
            show wr ((hdN i so : Int) + 0) = ((hdN i so + 0 : Nat) : Int)
            rw [wr_id (by omega) (by omega)]; omega
          | true =>
            show wr ((hdN i so : Int) + 1) = ((hdN i so + 1 : Nat) : Int)
            rw [wr_id (by omega) (by omega)]; omega
        unfold stNl
        generalize hdN (i + 1) so = l' at *
        generalize hdN i so = l at *
        generalize us.map e2 = U at *
        simp [F_laws_FnNextInCount_L0, hi, hi', hL, ni, b, w3, w4, -Int.natCast_add]) (by
        unfold stNl
        generalize us.map e2 = U at *
        simp [F_laws_FnNextInCount_L0, hL]) (by simp)
      have z0 : hdN 0 so = 0 := rfl
      rw [z0] at L
      unfold stNl at L
      simp only [Int.natCast_zero] at L
      change ex lf F_laws_FnNextInCount_W0 _ = _ at L
      have tk3 : List.take us.length ((us.map other).map e2) = (us.map other).map e2 := List.take_of_length_le (by simp)
      have lo : ((us.map other).map e2).length = us.length := by simp
      have lE := lend_e2 (us.map other)
      have aE := fun o => adopt_e2 o (us.map other)
      have nE := new_e2 (us.map other)
      generalize (us.map other).map e2 = M at *
      generalize hdN us.length so - n + 1 = z1 at *
      generalize hdN us.length so - n = z2 at *
      generalize hdN us.length so = z3 at *
      generalize nx us so n = i at *
      have ni : ¬ (i : Int) < 0 := by omega
      simp (config := { maxSteps := 2000000 }) [F_laws_FnNextInCount, hl, d, D1, D2, ni, L, br, z, O, w1, w2, W, lb1, tk1, tk3, lo, lE, aE, nE, hL, c_alive, -Int.natCast_add]
end
section
attribute [-simp] DV.cells
attribute [local simp] sliceD cells_st cells_sl cells_i cells_y cells_b cells_s cells_w
theorem full_fin : ∀ (m : _root_.Fin 6) (k : _root_.Fin 5), k.val < m.val → (2 ^ m.val - 1).testBit k.val = true := by decide +kernel
theorem Sl_full {m : Nat} (hm : m ≤ 5) : Sl m (2 ^ m - 1) = List.range m := by
  unfold Sl
  refine List.filter_eq_self.2 fun k hk => ?_
  have hk := List.mem_range.1 hk
  exact full_fin ⟨m, by omega⟩ ⟨k, by omega⟩ hk
theorem cvL_rows {us : List T} (h : tsOk us = true) : cvL us 1 = rA us 1 1 (rO us 1 us.length) ∧ cvL us (us.length : Nat) = rA us 0 1 (rO us 0 us.length) := by
  have ht := tsOk_iff.1 h
  have V := V_rows ht.2
  unfold cvL
  rw [ctOk_iff.2 ⟨h, by omega, by omega⟩, ctOk_iff.2 ⟨h, by omega, by omega⟩, if_pos rfl, if_pos rfl]
  unfold vS
  rw [Sl_full (by omega), Int.toNat_natCast]
  exact V
theorem ra_ro {us : List T} (h : tsOk us = true) {row : Int} (hr : row = 0 ∨ row = 1) : raOf us (roL us row) row = rA us row 1 (rO us row us.length) := by
  have rw1 : rwOk row = true := by rcases hr with rfl | rfl <;> rfl
  have e : roL us row = rO us row us.length := by unfold roL; rw [h, rw1]; rfl
  unfold raOf raOk
  rw [e, h, rO_ok h row, rw1]
  rfl
set_option maxHeartbeats 8000000 in
theorem law_FnCountAverage (x : List Nat) (_ : x.length ≤ Go.maxLen) (hb : ∀ y ∈ x, y < 256) : call lf n_laws_FnCountAverage [bys x] = some (.b true, []) := by
  show call lf n_laws_FnCountAverage [.sl 0 (x.map .y)] = _
  rw [call_k lf n_laws_FnCountAverage _ (F := F_laws_FnCountAverage) rfl rfl]
  by_cases hl : 1048576 < (x.length : Int)
  · simp (config := { maxSteps := 2000000 }) [F_laws_FnCountAverage, hl]
  · obtain ⟨us, k, u1, k1, d⟩ := c_DrawCountAverage hb (by omega)
    have D1 := c_impl_CountAverage us k (by omega)
    have D2 := c_spec_CountAverage us k (by omega)
    have lb1 : us.length ≤ bound := by unfold bound; omega
    have tk1 := tk_e2 us
    cases h : ctOk us k with
    | false =>
      have e : cvL us k = -1 := by unfold cvL; rw [h]; rfl
      rw [e] at D1 D2
      simp (config := { maxSteps := 2000000 }) [F_laws_FnCountAverage, hl, d, D1, D2, lb1, tk1, c_alive]
    | true =>
      obtain ⟨h1, k2, k3⟩ := ctOk_iff.1 h
      have ht := tsOk_iff.1 h1
      have v := (vS_up ht.2 (by omega) (2 ^ us.length - 1) k.toNat).1
      have e : cvL us k = vS us (2 ^ us.length - 1) k.toNat := by unfold cvL; rw [h]; rfl
      have n0 : ¬ cvL us k < 0 := by omega
      have B := c_impl_CountBest us k (by omega)
      have A1 := c_impl_CountAverage us 1 (by omega)
      have A2 := c_impl_CountAverage us (us.length : Nat) (by omega)
      obtain ⟨r1, r0⟩ := cvL_rows h1
      rw [r1] at A1
      rw [r0] at A2
      have R1 := c_impl_RatioOrder us 1 (by omega)
      have R0 := c_impl_RatioOrder us 0 (by omega)
      have l1 : ∀ row, (roL us row).length ≤ us.length := fun row => by
        unfold roL
        split
        · rw [rO_len]; exact Nat.le_refl _
        · simp
      have q1 := l1 1
      have q0 := l1 0
      have W1 := c_impl_RowAverage us (roL us 1) 1 (by omega) (by omega)
      have W0 := c_impl_RowAverage us (roL us 0) 0 (by omega) (by omega)
      rw [ra_ro h1 (.inr rfl)] at W1
      rw [ra_ro h1 (.inl rfl)] at W0
      have lb2 : (roL us 1).length ≤ bound := by unfold bound; omega
      have lb3 : (roL us 0).length ≤ bound := by unfold bound; omega
      have tk2 : List.take (roL us 1).length ((roL us 1).map DV.i) = (roL us 1).map .i := List.take_of_length_le (by simp)
      have tk3 : List.take (roL us 0).length ((roL us 0).map DV.i) = (roL us 0).map .i := List.take_of_length_le (by simp)
      clear r1 r0 e
      generalize cvL us k = N at *
      generalize rA us 1 1 (rO us 1 us.length) = X1 at *
      generalize rA us 0 1 (rO us 0 us.length) = X0 at *
      generalize roL us 1 = o1 at *
      generalize roL us 0 = o0 at *
      simp (config := { maxSteps := 2000000 }) [F_laws_FnCountAverage, hl, d, D1, D2, n0, R1, R0, W1, W0, B, A1, A2, lb1, lb2, lb3, tk1, tk2, tk3, c_alive]
end
end Zz
