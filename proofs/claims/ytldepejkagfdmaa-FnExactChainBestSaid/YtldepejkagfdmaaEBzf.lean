/- What the functions answer, as equations: EB. No conditions. -/
import Derived.Test.YtldepejkagfdmaaEAzf
set_option linter.unusedSectionVars false
set_option linter.unusedVariables false
set_option linter.unusedSimpArgs false
namespace Zz
open Go.Lg Md
set_option linter.unusedSimpArgs false
set_option linter.unusedVariables false
attribute [local simp] tm_mv tm_newnil tm_pick tm_bin tm_eqb tm_eqs tm_un tm_len tm_lens tm_chk tm_fld tm_fldv tm_idxa tm_idx tm_load tm_store tm_slice tm_slices tm_make tm_alloc tm_box tm_build tm_app tm_conv tm_ext tm_call tm_calld tm_mkfn tm_mm tm_idxp tm_eqn tm_callg tm_callm tm_bslice0 tm_bslice1 tm_bslice2 tm_bslice cw_nil cw_cons cd_none cd_some ec_nil ec_cons es_nil es_one es_more nn_nil nn_cons ns_nil ns_cons si_nil si_cons sk_t stod_oad stod_own stod_adr stod_dead ml_nil ml_cons nt_nil nt_cons nc_nil' nc_cons sa_mkfn cv_adr cv_i cv_y cv_b cv_w sa_calld nm_def nh_nil nh_cons nxM_some nxM_none sc_st sd_i sd_y sd_b sd_s sd_w sd_q sc_i sc_y sc_b sc_s sc_w sc_q sa_bslice sa_app nc_own nc_nil sa_call sa_alloc sa_build sa_callm rm_nil rm_one rm_gen bq_mul bq_eql ia_mv ia_newnil ia_pick ia_bin ia_eqb ia_eqs ia_un ia_len ia_lens ia_chk ia_fld ia_fldv ia_idxa ia_idx ia_load ia_store ia_slice ia_slices ia_make ia_alloc ia_box ia_build ia_bslice ia_app ia_b2i ia_i2b ia_i2i ia_same ia_b2s ia_s2b ia_ext ia_mm ia_idxp ia_calld ia_mkfn ia_i2r ia_r2s ia_call pt_nil pt_cons mi_nil mi_cons md_bslice md_mv md_newnil md_pick md_bin md_eqb md_un md_len md_lens md_fld md_fldv md_idxa md_idx md_load md_store md_slice md_slices md_make md_alloc md_box md_build md_app md_conv md_ext md_call md_calld md_callg md_mkfn md_mm md_idxp md_eqn md_eqs md_chk tg_bslice tg_mv tg_newnil tg_pick tg_bin tg_eqb tg_un tg_len tg_lens tg_fld tg_fldv tg_idxa tg_idx tg_load tg_store tg_slice tg_slices tg_make tg_alloc tg_box tg_build tg_app tg_conv tg_ext tg_call tg_calld tg_callg tg_mkfn tg_mm tg_idxp tg_eqn tg_eqs tg_chk rp_eq ro_eq ifP_t ifP_f np_def ng1_nil ng2_nil ng_gate ng_gen tgA_t tgA_0 tgA_1 tgA_2 aC_nil aC_c aC_t nxP_some nxP_none rq_nil rq_gen rq_gate nxR_some nxR_none ru_nil ru_gen ru_gate pl_none pl_some gt_nil gt_t gt_c di_some di_none an_nil an_cons nxG_some nxG_none rg_nil rg_gen rg_gate oldO_some oa_nil oa_i oa_y oa_b oa_s oa_st oa_sl oa_own oa_oad oa_nl al_nil al_cons al_i al_y al_b al_s al_st al_sl nxF_some nxF_none rf_nil rf_gen rf_gate hk_newnil hk_make hk_alloc hk_box hk_build hk_bslice hk_call hk_store hk_app hk_appn em_cel mm_cel ok_cel ov_cel so_cel il_cel oi_cel oj_cel ol_cel nm_cel hk_appc ef_bslice5 ef_app_cel ks_shut shu_own shc_none shc_cel cl_nil cl_cons ai_nil ai_cons il_i il_y il_b il_s il_st il_sl il_own il_adr il_oad il_ref il_fr il_tup il_nil il_np il_und il_dead ol_adr ol_b ol_dead ol_e ol_fn ol_fr ol_i ol_nil ol_np ol_oad ol_own ol_q ol_r ol_ref ol_s ol_sl ol_st ol_tup ol_und ol_w ol_y oj_e oj_i oj_y oj_b oj_s oj_st oj_sl oj_own oj_adr oj_oad oj_ref oj_fr oj_tup oj_nil oj_np oj_und oj_dead oj_w oj_q oj_r oj_fn oi_e oi_i oi_y oi_b oi_s oi_st oi_sl oi_own oi_adr oi_oad oi_ref oi_fr oi_tup oi_nil oi_np oi_und oi_dead as_nil as_cons ao_nil ao_cons av_i av_y av_b av_s av_st av_sl av_own av_adr av_oad av_ref av_fr av_tup av_nil av_np av_und av_dead pro_cons ghK_some ks_promote ks_freeze frz_own ks_rename ren_own dropO adoptP newP wholeP cutP allOldL ex_skip ex_ret ex_exit ks_region ks_seq ks_cond ks_block seqK_n seqK_e seqK_r regK_some condK_t condK_f blkK_n blkK_r blkK_e endK_n endK_r rr_false rr_true rd_free mo_nil mo_cons drK_some drK_none nxW_some nxW_none rw_nil rw_gen rw_gate ak_newnil ak_make ak_alloc ak_box ak_build ak_bslice ak_call ak_store ak_app iw_mm iw_eqn iw_idxp ef_callg cgK_some gv_e gv_own gv_i gv_sl gv_st gv_b gv_nil gvK_some gvO_some iw_callg ia_callg ak_callg hk_callg is_mv is_newnil is_pick is_bin is_eqb is_eqs is_un is_len is_lens is_chk is_fld is_fldv is_idxa is_idx is_load is_slice is_slices is_make is_alloc is_box is_build is_bslice is_app is_conv is_ext is_call is_calld is_callg is_mkfn is_mm is_idxp is_eqn is_store rt_nil rt_gen rt_gate nxT_some nxT_none ef_eqn_nil ef_eqn_sl ef_eqn_own ia_eqn ef_mmx ef_mmn ef_idxp nxD_some nxD_none ov_i ov_y ov_b ov_s ov_st ov_sl ov_own ov_oad ov_adr ov_nil ov_np ov_und ov_dead ov_tup oldN_some oldN_nil oldN_none so_none so_tup DV.noM so_i so_y so_b so_s so_st so_sl so_adr so_nil so_np so_und so_dead anyM_nil anyM_t anyM_c so_own so_oad rd_nil rd_gen rd_mv rd_gate iw_mv iw_newnil iw_pick iw_bin iw_eqb iw_eqs iw_un iw_len iw_lens iw_chk iw_fld iw_fldv iw_idxa iw_idx iw_load iw_store iw_slice iw_slices iw_make iw_alloc iw_box iw_build iw_bslice iw_app iw_b2i iw_i2b iw_i2i iw_same iw_b2s iw_s2b iw_ext iw_call nm_i nm_y nm_b nm_s nm_st nm_sl nm_own nm_oad nm_adr nm_nil nm_np nm_und nm_dead nm_tup rl_nil rl_gate rl_mv rl_gen opv_t opv_c nx_some nx_none gate_tt gate_tf gate_ft gate_ff gate_u fr_ap em_nil em_i em_y em_b em_s em_st em_sl em_own em_adr em_oad em_ref em_nl em_np em_und em_dead em_tup0 em_tup_i em_tup_b em_tup_s em_tup_sl em_tup_st em_tup_np em_tup_own em_tup_oad mm_i mm_y mm_b mm_s mm_st mm_sl mm_own mm_oad mm_adr mm_nil mm_np mm_und mm_dead ef_mv ef_newnil ef_pickt ef_pickf ef_bin ef_eqb ef_eqs ef_un ef_lens ef_len_sl ef_len_own ef_len_nil ef_chk_adr ef_chk_oad ef_fld_adr ef_fld_oad ef_fldv idxR_some ef_idxa_sl ef_idxa_own ef_idx ef_load_adr_st ef_load_adr_i ef_load_adr_y ef_load_adr_b ef_load_adr_s ef_load_adr_sl atN_nil atN_zero atN_succ ef_load_oad ef_store ef_slice ef_slices ef_make ef_alloc ef_box ef_build ef_bslice ef_app_own ef_app_nil ef_b2i ef_i2b ef_i2i ef_same ef_ext ret1 ret2_some calL_some ef_call retC_i retC_y retC_b retC_s retC_st retC_sl retC_np retC_fr retC_ref retC_tup rk_nil rk_i rk_y rk_b rk_s rk_st rk_sl rk_own rk_oad rk_nl ok_nil ok_i ok_y ok_b ok_s ok_st ok_sl ok_own ok_oad ok_nl lo_nil lo_i lo_y lo_b lo_s lo_st lo_sl lo_own lo_oad lo_nl pr_nil pr_i pr_y pr_b pr_s pr_st pr_sl pr_own pr_nl pr_oad nr_i nr_y nr_b nr_s nr_st nr_sl nr_fr nr_np nr_tup ng_i ng_b ng_s ng_fr ng_nil resV effP_eff binD bi_add bi_sub bi_mul bi_quo bi_rem bi_eql bi_neq bi_lss bi_leq bi_gtr bi_geq bi_shl bi_shr bi_and bi_or bi_xor bi_andNot binY binS unD look put putD LS.get LS.drop killE sweep lookO putO dropO enter leave giveBackL giveBack outs lendArgs lendArg newOuts takeIn takeInL lendL DV.lend adoptL DV.adopt elems apartKs part DV.cells unpart settle settleL over mkId szId fillP fillE tk_e2 tk_i tk_y lt_e2 lt_i lt_y lend_rep al_e2 al_is al_ys al_rep al_app lend_app adopt_app new_app lend_e2 lend_i lend_y adopt_e2 adopt_i adopt_y new_e2 new_i allNewL DV.allNew bounds sliceD sliceS em_w em_q em_r em_fn em_tup_w em_tup_q em_tup_r mm_w mm_q mm_r mm_fn ef_load_adr_w ef_load_adr_q ef_load_adr_r retC_w retC_q retC_r rk_w rk_q rk_r rk_fn ok_w ok_q ok_r ok_fn lo_w lo_q lo_r lo_fn pr_w pr_q pr_r pr_fn nr_w nr_q nr_r ng_w ng_q ng_r oa_w oa_q oa_r oa_fn al_w al_q al_r al_fn ov_w ov_q ov_r ov_fn so_w so_q so_r so_fn il_w il_q il_r il_fn oi_w oi_q oi_r oi_fn av_w av_q av_r av_fn nm_w nm_q nm_r nm_fn ef_i2r ef_r2s ef_mkfn ef_mkbd ef_idxp_adr ef_idxp_q ef_calld_nil ef_calld_adr ef_calld_bd DV.capB capsOk DV.cell List.all_cons List.all_nil rk_own_t lo_own_t lk_f lk_t pr_own_t mutB ak_calld hk_calld iw_calld iw_mkfn iw_i2r iw_r2s bw_and bw_or bw_xor bw_andNot bw_eql bw_neq sw_shl sw_shr sq_shl gEnv_nil rk_adr ok_adr lo_adr pr_adr oa_adr capL capArg DV.cap ak_mkfn hk_mkfn hk_mkbd ef_callm gf_ap ga_nil ga_cons tgv_own gk_e gk_giv gk_i gk_y gk_b gk_s gk_w gk_q gk_r gk_fn gk_st gk_sl gk_own gk_oad gk_adr gk_nl gk_np rk_giv ok_giv lo_giv pr_giv oa_giv iw_callm hk_callm ak_callm is_callm ia_callm tg_callm md_callm ef_i2q ef_q2i ef_q2q iw_i2q iw_q2i iw_q2q ia_i2q ia_q2i ia_q2q bq_and bq_add bq_shr sq_shr tgv_nil gk_ref rk_ref ok_ref lo_ref pr_ref oa_ref retC_fn nr_fn ef_load_adr_fn ks_close cls_oad
attribute [local congr] nxM_congr ifP_congr nxP_congr nxR_congr nxT_congr nxG_congr nxF_congr ghK_congr gate_congr nx_congr nxD_congr runL_congr runD_congr eff_congr calL_congr ret2_congr seqK_congr regK_congr condK_congr endK_congr drK_congr nxW_congr
attribute [local simp ↓] nxM_some rm_nil rm_one rm_gen nxT_some rt_nil rt_gen rt_gate nxP_some rq_nil rq_gen rq_gate nxR_some ru_nil ru_gen ru_gate nxG_some rg_nil rg_gen rg_gate nxF_some rf_nil rf_gen rf_gate ks_promote ks_freeze frz_own ks_rename ghK_some gate_tt gate_tf gate_ft gate_ff gate_u nx_some nxD_some rl_nil rl_mv rl_gen rl_gate rd_nil rd_mv rd_gen rd_gate rd_free rr_false rr_true drK_some drK_none nxW_some rw_nil rw_gen rw_gate ks_region ks_seq ks_cond ks_block seqK_n seqK_e seqK_r regK_some condK_t condK_f blkK_n blkK_r endK_n endK_r calL_some ret2_some opv_t opv_c
section
attribute [-simp] DV.cells
attribute [local simp] sliceD cells_st cells_sl cells_i cells_y cells_b cells_s cells_w
attribute [local simp] lend_eR al_eR
def stLA (us : List T) (L : LN) (f : Nat) (v : Int) (k : Nat) : LS :=
  ⟨[(0, .sl 0 (us.map e2)), (1, .sl 0 ((L.map ni).map eR)), (2, .i (f : Nat)), (7, .i v), (12, .sl 0 ((L.map ni).map eR)), (13, .i L.length), (14, .i k)], []⟩
def LaOk (us : List T) (f : Nat) : Prop := ∀ L : LN, LOk us L → L.flatten.length = f → (∀ c ∈ L, c.length ≤ 5) → L.length ≤ 5 →
    call lf n_impl_leastAlong [.sl 0 (us.map e2), .sl 0 ((L.map ni).map eR), .i (f : Nat)] = some (.i (lA us f L), [])
set_option maxHeartbeats 4000000 in
theorem la_step {us : List T} (h : tsOk us = true) {f : Nat} (hf5 : f + 1 ≤ 5) (ih : LaOk us f) {L : LN} (hL : LOk us L) (hf : L.flatten.length = f + 1) (h5 : ∀ c ∈ L, c.length ≤ 5) (ln : L.length ≤ 5) {i : Nat} (hi : i < L.length) :
    ex lf F_impl_leastAlong_L0 (stLA us L (f + 1) (m0 (gLA us L f (lA us f)) i) i) = some (.normal, stLA us L (f + 1) (m0 (gLA us L f (lA us f)) (i + 1)) (i + 1)) := by
  have h' := tsOk_iff.1 h
  have A := at_C hi
  have e : L.getD i [] = L[i] := by rw [List.getD_eq_getElem?_getD, List.getElem?_eq_getElem hi]; rfl
  rw [← e] at A
  have c5 : (L.getD i []).length ≤ 5 := by rw [e]; exact h5 _ (List.getElem_mem hi)
  have hi' : (i : Int) < L.length := by omega
  have ll : (L.map ni).length = L.length := by simp
  have w7 := wr_succ (k := i) (by omega)
  have pos : ∀ j n, gLA us L f (lA us f) j = some n → 0 < n := fun j n hn => (lA_bd h'.2 (f + 1) L hL hf).2 j n (by omega) hn
  have mb : 0 ≤ m0 (gLA us L f (lA us f)) i := by unfold m0; split <;> omega
  cases hc : L.getD i [] with
  | nil =>
    rw [hc] at A
    have e0 : gLA us L f (lA us f) i = none := by unfold gLA; rw [hc]
    rw [m0_none e0]
    generalize m0 (gLA us L f (lA us f)) i = z at *
    have n0 : (ni []).map DV.i = [] := rfl
    rw [n0] at A
    unfold stLA
    generalize L.map ni = L' at *
    simp [F_impl_leastAlong_L0, A, ll, hi, hi', w7, -Int.natCast_add]
  | cons k c =>
    rw [hc] at A c5
    obtain ⟨s1, s2, s3⟩ := lok_set hL hc
    have e0 : gLA us L f (lA us f) i = some (cA us k * 6 ^ (f + 1) + pA us k * lA us f (L.set i c)) := by unfold gLA; rw [hc]
    rw [m0_some pos e0]
    have B := c_behindPart ln (a := i) (b := 1) hi (by rw [hc]; simp) (by rw [hc]; exact c5)
    rw [hc, List.drop_one, List.tail_cons, Int.natCast_one] at B
    have I := ih (L.set i c) s2 (by omega) (fun d hd => by
      rcases List.mem_or_eq_of_mem_set hd with q | q
      · exact h5 d q
      · rw [q]; simp at c5; omega) (by simp; omega)
    have b := (lA_bd h'.2 f (L.set i c) s2 (by omega)).1
    have cb := cA_bd h'.2 s1
    have pb := pA_bd h'.2 s1
    have p := p6 (n := f) (by omega)
    have up : 9 * (f : Int) * 6 ^ f ≤ 36 * 7776 := Int.mul_le_mul (by omega) p.2 (by omega) (by omega)
    have V := c_averageAsking (n := f + 1) (no := 0) (yes := lA us f (L.set i c)) hf5 cb pb (by omega) (by omega)
    have at2 := atT s1
    have k0 : atI ((ni (k :: c)).map DV.i) 0 = some (.i k) := rfl
    have lc : ¬ ((ni (k :: c)).length = 0) := by simp [ni]
    have lc0 : ((((ni (k :: c)).length : Nat) : Int) == 0) = false := by simp [ni]; omega
    have w1 : wr (((f + 1 : Nat) : Int) - 1) = (f : Nat) := by rw [wr_id (by omega) (by omega)]; omega
    have z0 : (6 - pA us k) * 0 = 0 := by omega
    rw [z0, Int.add_zero] at V
    have lpos : 0 < (ni (k :: c)).length := by simp [ni]
    have lpos' : (0 : Int) < (ni (k :: c)).length := by omega
    have ks : (k : Int) < us.length := by omega
    have ml : ((L.set i c).map ni).length = L.length := by simp
    have ao := adopt_eRP true ((L.set i c).map ni)
    rw [show adoptP true 0 = 0 from rfl, eP_zero] at ao
    generalize (L.set i c).map ni = M at *
    generalize lA us f (L.set i c) = v at *
    generalize cA us k * 6 ^ (f + 1) + pA us k * v = n at *
    generalize cA us k = q at *
    generalize pA us k = r at *
    generalize m0 (gLA us L f (lA us f)) i = z at *
    generalize ni (k :: c) = row at *
    unfold stLA
    generalize hF : f + 1 = F at *
    generalize L.map ni = L' at *
    by_cases q1 : z = 0
    · subst q1
      rw [if_pos (Or.inl rfl)]
      simp [F_impl_leastAlong_L0, A, ll, hi, hi', w7, B, I, V, at2, k0, lc, lc0, w1, lpos, lpos', s1, ks, ml, ao, -Int.natCast_add]
    · have q1' : (z == 0) = false := by simp [q1]
      by_cases q2 : n < z
      · rw [if_pos (Or.inr q2)]
        simp [F_impl_leastAlong_L0, A, ll, hi, hi', w7, B, I, V, at2, k0, lc, lc0, w1, lpos, lpos', s1, ks, ml, ao, q1, q1', q2, -Int.natCast_add]
      · rw [if_neg (show ¬ (z = 0 ∨ n < z) by omega)]
        simp [F_impl_leastAlong_L0, A, ll, hi, hi', w7, B, I, V, at2, k0, lc, lc0, w1, lpos, lpos', s1, ks, ml, ao, q1, q1', q2, -Int.natCast_add]
set_option maxHeartbeats 1000000 in
theorem la_zero (us : List T) : LaOk us 0 := by
  intro L hL hf h5 ln
  rw [call_k lf n_impl_leastAlong _ (F := F_impl_leastAlong) rfl rfl]
  have ll : (L.map ni).length = L.length := by simp
  have em := List.flatten_eq_nil_iff.1 (List.length_eq_zero_iff.1 hf)
  have J : ex lf F_impl_leastAlong_W0 (stLA us L 0 0 0) = some (.exit 0, stLA us L 0 0 L.length) := by
    refine loop_count (lf := lf) (L := F_impl_leastAlong_L0) L.length (fun k => stLA us L 0 0 k) (fun k hk => ?_) ?_ (by simp)
    · have A := at_C hk
      rw [em _ (List.getElem_mem hk)] at A
      have hk' : (k : Int) < L.length := by omega
      have w1 := wr_succ (k := k) (by omega)
      have n0 : (ni []).map DV.i = [] := rfl
      rw [n0] at A
      show ex lf F_impl_leastAlong_L0 (stLA us L 0 0 k) = some (.normal, stLA us L 0 0 (k + 1))
      unfold stLA
      generalize L.map ni = L' at *
      simp [F_impl_leastAlong_L0, A, ll, hk, hk', w1, -Int.natCast_add]
    · show ex lf F_impl_leastAlong_L0 (stLA us L 0 0 L.length) = _
      unfold stLA
      generalize L.map ni = L' at *
      simp [F_impl_leastAlong_L0, ll]
  unfold stLA at J
  simp only [Int.natCast_zero] at J
  simp only [lA]
  generalize L.map ni = L' at *
  simp [F_impl_leastAlong, ll, J]
set_option maxHeartbeats 1000000 in
theorem c_leastAlong {us : List T} (h : tsOk us = true) : ∀ f, f ≤ 5 → LaOk us f
  | 0, _ => la_zero us
  | f + 1, hf5 => by
    have ih := c_leastAlong h f (by omega)
    intro L hL hf h5 ln
    rw [call_k lf n_impl_leastAlong _ (F := F_impl_leastAlong) rfl rfl]
    have ll : (L.map ni).length = L.length := by simp
    have J : ex lf F_impl_leastAlong_W0 (stLA us L (f + 1) (m0 (gLA us L f (lA us f)) 0) 0) = some (.exit 0, stLA us L (f + 1) (m0 (gLA us L f (lA us f)) L.length) L.length) := by
      refine loop_count (lf := lf) (L := F_impl_leastAlong_L0) L.length (fun k => stLA us L (f + 1) (m0 (gLA us L f (lA us f)) k) k) (fun k hk => la_step h hf5 ih hL hf h5 ln hk) ?_ (by simp)
      show ex lf F_impl_leastAlong_L0 (stLA us L (f + 1) (m0 (gLA us L f (lA us f)) L.length) L.length) = _
      generalize m0 (gLA us L f (lA us f)) L.length = z at *
      unfold stLA
      generalize L.map ni = L' at *
      simp [F_impl_leastAlong_L0, ll]
    rw [m0_zero] at J
    simp only [lA]
    generalize m0 (gLA us L f (lA us f)) L.length = z at *
    unfold stLA at J
    simp only [Int.natCast_zero] at J
    generalize f + 1 = F at *
    generalize L.map ni = L' at *
    simp [F_impl_leastAlong, ll, J]
set_option maxHeartbeats 1000000 in
theorem c_impl_ChainBest (us : List T) (L : List (List Int)) (ha : (us.length : Int) < 1099511627776) (hb : (L.length : Int) < 1099511627776) (hf : (L.flatten.length : Int) < 1099511627776) :
    call lf n_impl_ChainBest [.sl 0 (us.map e2), .sl 0 (L.map eR)] = some (.i (cbV us L), []) := by
  rw [call_k lf n_impl_ChainBest _ (F := F_impl_ChainBest) rfl rfl]
  have C1 := c_impl_TestsOk us ha
  have C2 := c_impl_GroupsOk us.length L hb
  unfold cbV cbO
  cases h1 : tsOk us with
  | false => rw [h1] at C1; simp [F_impl_ChainBest, C1]
  | true =>
    rw [h1] at C1
    cases h2 : gokB us.length L with
    | false => rw [h2] at C2; simp [F_impl_ChainBest, C1, C2]
    | true =>
      rw [h2] at C2
      have h' := tsOk_iff.1 h1
      obtain ⟨N, rfl, G⟩ := gok_of (m := us.length) (by omega) h2
      have gl := gok_len G
      have cn : N.length ≤ 5 := by have := flat_ge9 G.ne; omega
      have c5 : ∀ c ∈ N, c.length ≤ 5 := fun c hc => by
        obtain ⟨A, B, e⟩ := List.append_of_mem hc
        have e2 : N.flatten.length = (A ++ c :: B).flatten.length := by rw [← e]
        rw [List.flatten_append, List.flatten_cons, List.length_append, List.length_append] at e2
        omega
      have S := c_leastAlong h1 us.length (by omega) N G.lt gl c5 cn
      have E := lA_chF h'.2 G.lt
      rw [gl] at E
      rw [E] at S
      rw [natL_ni]
      generalize gD _ = Z at *
      generalize N.map ni = L at *
      simp [F_impl_ChainBest, C1, C2, S]
end
section
attribute [local simp] lend_eR al_eR lend_eN adopt_eN new_eN
set_option maxHeartbeats 4000000 in
theorem law_FnExactChainBest (us : List T) (hu : us.length ≤ Go.maxLen) (L : List (List Int)) (hL : L.length ≤ Go.maxLen ∧ ∀ r ∈ L, r.length ≤ Go.maxLen) : call lf n_laws_FnExactChainBest [rs2 us, rss L] = some (.b true, []) := by
  show call lf n_laws_FnExactChainBest [.sl 0 (us.map e2), .sl 0 (L.map eR)] = _
  rw [call_k lf n_laws_FnExactChainBest _ (F := F_laws_FnExactChainBest) rfl rfl]
  have hw : (us.length : Int) ≤ 9223372036854775807 := by unfold Go.maxLen at hu; omega
  have S0 := c_szTestS us 1048576 (by omega) (by omega) hw
  by_cases h : (1048576 : Int) < us.length
  · simp [F_laws_FnExactChainBest, S0, h]
  · have n1 : ¬ ((1048576 : Int) - us.length < 0) := by omega
    have A0 := c_toTestS us (by omega)
    have Q0 := c_eqTestS_self us (by omega)
    rcases c_szIntSS L (1048576 - us.length) (by omega) hL.1 hL.2 with S | ⟨z, z0, z1, zL, zF, S⟩
    · simp [F_laws_FnExactChainBest, S0, S, h, n1]
    · have n0 : ¬ z < 0 := by omega
      have hr : ∀ r ∈ L, (r.length : Int) ≤ 1048576 := fun r hr => by
        obtain ⟨A, B, rfl⟩ := List.append_of_mem hr
        simp only [List.flatten_append, List.flatten_cons, List.length_append] at zF
        omega
      have A := c_toIntSS L (by omega) hr
      have Q := c_eqIntSS_self L (by omega) hr
      have C1 := c_impl_ChainBest us L (by omega) (by omega) (by omega)
      have C2 := c_spec_ChainBest us L (by omega) (by omega) (by omega)
      generalize cbV us L = x at *
      have tk : List.take L.length (L.map eN) = L.map eN := List.take_of_length_le (by simp)
      simp (config := { maxSteps := 2000000 }) [F_laws_FnExactChainBest, S0, S, h, n0, n1, A0, Q0, A, Q, C1, C2, tk]
end
end Zz
