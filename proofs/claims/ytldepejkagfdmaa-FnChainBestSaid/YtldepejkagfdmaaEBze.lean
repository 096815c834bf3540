/- What the functions answer, as equations: EB. No conditions. -/
import Derived.Test.YtldepejkagfdmaaEAze
set_option linter.unusedSectionVars false
set_option linter.unusedVariables false
set_option linter.unusedSimpArgs false
namespace Zz
open Go.Lg Md
set_option linter.unusedSimpArgs false
set_option linter.unusedVariables false
attribute [local simp] tm_mv tm_newnil tm_pick tm_bin tm_eqb tm_eqs tm_un tm_len tm_lens tm_chk tm_fld tm_fldv tm_idxa tm_idx tm_load tm_store tm_slice tm_slices tm_make tm_alloc tm_box tm_build tm_app tm_conv tm_ext tm_call tm_calld tm_mkfn tm_mm tm_idxp tm_eqn tm_callg tm_callm tm_bslice0 tm_bslice1 tm_bslice2 tm_bslice cw_nil cw_cons cd_none cd_some ec_nil ec_cons es_nil es_one es_more nn_nil nn_cons ns_nil ns_cons si_nil si_cons sk_t stod_oad stod_own stod_adr stod_dead ml_nil ml_cons nt_nil nt_cons nc_nil' nc_cons sa_mkfn cv_adr cv_i cv_y cv_b cv_w sa_calld nm_def nh_nil nh_cons nxM_some nxM_none sc_st sd_i sd_y sd_b sd_s sd_w sd_q sc_i sc_y sc_b sc_s sc_w sc_q sa_bslice sa_app nc_own nc_nil sa_call sa_alloc sa_build sa_callm rm_nil rm_one rm_gen bq_mul bq_eql ia_mv ia_newnil ia_pick ia_bin ia_eqb ia_eqs ia_un ia_len ia_lens ia_chk ia_fld ia_fldv ia_idxa ia_idx ia_load ia_store ia_slice ia_slices ia_make ia_alloc ia_box ia_build ia_bslice ia_app ia_b2i ia_i2b ia_i2i ia_same ia_b2s ia_s2b ia_ext ia_mm ia_idxp ia_calld ia_mkfn ia_i2r ia_r2s ia_call pt_nil pt_cons mi_nil mi_cons md_bslice md_mv md_newnil md_pick md_bin md_eqb md_un md_len md_lens md_fld md_fldv md_idxa md_idx md_load md_store md_slice md_slices md_make md_alloc md_box md_build md_app md_conv md_ext md_call md_calld md_callg md_mkfn md_mm md_idxp md_eqn md_eqs md_chk tg_bslice tg_mv tg_newnil tg_pick tg_bin tg_eqb tg_un tg_len tg_lens tg_fld tg_fldv tg_idxa tg_idx tg_load tg_store tg_slice tg_slices tg_make tg_alloc tg_box tg_build tg_app tg_conv tg_ext tg_call tg_calld tg_callg tg_mkfn tg_mm tg_idxp tg_eqn tg_eqs tg_chk rp_eq ro_eq ifP_t ifP_f np_def ng1_nil ng2_nil ng_gate ng_gen tgA_t tgA_0 tgA_1 tgA_2 aC_nil aC_c aC_t nxP_some nxP_none rq_nil rq_gen rq_gate nxR_some nxR_none ru_nil ru_gen ru_gate pl_none pl_some gt_nil gt_t gt_c di_some di_none an_nil an_cons nxG_some nxG_none rg_nil rg_gen rg_gate oldO_some oa_nil oa_i oa_y oa_b oa_s oa_st oa_sl oa_own oa_oad oa_nl al_nil al_cons al_i al_y al_b al_s al_st al_sl nxF_some nxF_none rf_nil rf_gen rf_gate hk_newnil hk_make hk_alloc hk_box hk_build hk_bslice hk_call hk_store hk_app hk_appn em_cel mm_cel ok_cel ov_cel so_cel il_cel oi_cel oj_cel ol_cel nm_cel hk_appc ef_bslice5 ef_app_cel ks_shut shu_own shc_none shc_cel cl_nil cl_cons ai_nil ai_cons il_i il_y il_b il_s il_st il_sl il_own il_adr il_oad il_ref il_fr il_tup il_nil il_np il_und il_dead ol_adr ol_b ol_dead ol_e ol_fn ol_fr ol_i ol_nil ol_np ol_oad ol_own ol_q ol_r ol_ref ol_s ol_sl ol_st ol_tup ol_und ol_w ol_y oj_e oj_i oj_y oj_b oj_s oj_st oj_sl oj_own oj_adr oj_oad oj_ref oj_fr oj_tup oj_nil oj_np oj_und oj_dead oj_w oj_q oj_r oj_fn oi_e oi_i oi_y oi_b oi_s oi_st oi_sl oi_own oi_adr oi_oad oi_ref oi_fr oi_tup oi_nil oi_np oi_und oi_dead as_nil as_cons ao_nil ao_cons av_i av_y av_b av_s av_st av_sl av_own av_adr av_oad av_ref av_fr av_tup av_nil av_np av_und av_dead pro_cons ghK_some ks_promote ks_freeze frz_own ks_rename ren_own dropO adoptP newP wholeP cutP allOldL ex_skip ex_ret ex_exit ks_region ks_seq ks_cond ks_block seqK_n seqK_e seqK_r regK_some condK_t condK_f blkK_n blkK_r blkK_e endK_n endK_r rr_false rr_true rd_free mo_nil mo_cons drK_some drK_none nxW_some nxW_none rw_nil rw_gen rw_gate ak_newnil ak_make ak_alloc ak_box ak_build ak_bslice ak_call ak_store ak_app iw_mm iw_eqn iw_idxp ef_callg cgK_some gv_e gv_own gv_i gv_sl gv_st gv_b gv_nil gvK_some gvO_some iw_callg ia_callg ak_callg hk_callg is_mv is_newnil is_pick is_bin is_eqb is_eqs is_un is_len is_lens is_chk is_fld is_fldv is_idxa is_idx is_load is_slice is_slices is_make is_alloc is_box is_build is_bslice is_app is_conv is_ext is_call is_calld is_callg is_mkfn is_mm is_idxp is_eqn is_store rt_nil rt_gen rt_gate nxT_some nxT_none ef_eqn_nil ef_eqn_sl ef_eqn_own ia_eqn ef_mmx ef_mmn ef_idxp nxD_some nxD_none ov_i ov_y ov_b ov_s ov_st ov_sl ov_own ov_oad ov_adr ov_nil ov_np ov_und ov_dead ov_tup oldN_some oldN_nil oldN_none so_none so_tup DV.noM so_i so_y so_b so_s so_st so_sl so_adr so_nil so_np so_und so_dead anyM_nil anyM_t anyM_c so_own so_oad rd_nil rd_gen rd_mv rd_gate iw_mv iw_newnil iw_pick iw_bin iw_eqb iw_eqs iw_un iw_len iw_lens iw_chk iw_fld iw_fldv iw_idxa iw_idx iw_load iw_store iw_slice iw_slices iw_make iw_alloc iw_box iw_build iw_bslice iw_app iw_b2i iw_i2b iw_i2i iw_same iw_b2s iw_s2b iw_ext iw_call nm_i nm_y nm_b nm_s nm_st nm_sl nm_own nm_oad nm_adr nm_nil nm_np nm_und nm_dead nm_tup rl_nil rl_gate rl_mv rl_gen opv_t opv_c nx_some nx_none gate_tt gate_tf gate_ft gate_ff gate_u fr_ap em_nil em_i em_y em_b em_s em_st em_sl em_own em_adr em_oad em_ref em_nl em_np em_und em_dead em_tup0 em_tup_i em_tup_b em_tup_s em_tup_sl em_tup_st em_tup_np em_tup_own em_tup_oad mm_i mm_y mm_b mm_s mm_st mm_sl mm_own mm_oad mm_adr mm_nil mm_np mm_und mm_dead ef_mv ef_newnil ef_pickt ef_pickf ef_bin ef_eqb ef_eqs ef_un ef_lens ef_len_sl ef_len_own ef_len_nil ef_chk_adr ef_chk_oad ef_fld_adr ef_fld_oad ef_fldv idxR_some ef_idxa_sl ef_idxa_own ef_idx ef_load_adr_st ef_load_adr_i ef_load_adr_y ef_load_adr_b ef_load_adr_s ef_load_adr_sl atN_nil atN_zero atN_succ ef_load_oad ef_store ef_slice ef_slices ef_make ef_alloc ef_box ef_build ef_bslice ef_app_own ef_app_nil ef_b2i ef_i2b ef_i2i ef_same ef_ext ret1 ret2_some calL_some ef_call retC_i retC_y retC_b retC_s retC_st retC_sl retC_np retC_fr retC_ref retC_tup rk_nil rk_i rk_y rk_b rk_s rk_st rk_sl rk_own rk_oad rk_nl ok_nil ok_i ok_y ok_b ok_s ok_st ok_sl ok_own ok_oad ok_nl lo_nil lo_i lo_y lo_b lo_s lo_st lo_sl lo_own lo_oad lo_nl pr_nil pr_i pr_y pr_b pr_s pr_st pr_sl pr_own pr_nl pr_oad nr_i nr_y nr_b nr_s nr_st nr_sl nr_fr nr_np nr_tup ng_i ng_b ng_s ng_fr ng_nil resV effP_eff binD bi_add bi_sub bi_mul bi_quo bi_rem bi_eql bi_neq bi_lss bi_leq bi_gtr bi_geq bi_shl bi_shr bi_and bi_or bi_xor bi_andNot binY binS unD look put putD LS.get LS.drop killE sweep lookO putO dropO enter leave giveBackL giveBack outs lendArgs lendArg newOuts takeIn takeInL lendL DV.lend adoptL DV.adopt elems apartKs part DV.cells unpart settle settleL over mkId szId fillP fillE tk_e2 tk_i tk_y lt_e2 lt_i lt_y lend_rep al_e2 al_is al_ys al_rep al_app lend_app adopt_app new_app lend_e2 lend_i lend_y adopt_e2 adopt_i adopt_y new_e2 new_i allNewL DV.allNew bounds sliceD sliceS em_w em_q em_r em_fn em_tup_w em_tup_q em_tup_r mm_w mm_q mm_r mm_fn ef_load_adr_w ef_load_adr_q ef_load_adr_r retC_w retC_q retC_r rk_w rk_q rk_r rk_fn ok_w ok_q ok_r ok_fn lo_w lo_q lo_r lo_fn pr_w pr_q pr_r pr_fn nr_w nr_q nr_r ng_w ng_q ng_r oa_w oa_q oa_r oa_fn al_w al_q al_r al_fn ov_w ov_q ov_r ov_fn so_w so_q so_r so_fn il_w il_q il_r il_fn oi_w oi_q oi_r oi_fn av_w av_q av_r av_fn nm_w nm_q nm_r nm_fn ef_i2r ef_r2s ef_mkfn ef_mkbd ef_idxp_adr ef_idxp_q ef_calld_nil ef_calld_adr ef_calld_bd DV.capB capsOk DV.cell List.all_cons List.all_nil rk_own_t lo_own_t lk_f lk_t pr_own_t mutB ak_calld hk_calld iw_calld iw_mkfn iw_i2r iw_r2s bw_and bw_or bw_xor bw_andNot bw_eql bw_neq sw_shl sw_shr sq_shl gEnv_nil rk_adr ok_adr lo_adr pr_adr oa_adr capL capArg DV.cap ak_mkfn hk_mkfn hk_mkbd ef_callm gf_ap ga_nil ga_cons tgv_own gk_e gk_giv gk_i gk_y gk_b gk_s gk_w gk_q gk_r gk_fn gk_st gk_sl gk_own gk_oad gk_adr gk_nl gk_np rk_giv ok_giv lo_giv pr_giv oa_giv iw_callm hk_callm ak_callm is_callm ia_callm tg_callm md_callm ef_i2q ef_q2i ef_q2q iw_i2q iw_q2i iw_q2q ia_i2q ia_q2i ia_q2q bq_and bq_add bq_shr sq_shr tgv_nil gk_ref rk_ref ok_ref lo_ref pr_ref oa_ref retC_fn nr_fn ef_load_adr_fn ks_close cls_oad
attribute [local congr] nxM_congr ifP_congr nxP_congr nxR_congr nxT_congr nxG_congr nxF_congr ghK_congr gate_congr nx_congr nxD_congr runL_congr runD_congr eff_congr calL_congr ret2_congr seqK_congr regK_congr condK_congr endK_congr drK_congr nxW_congr
attribute [local simp ↓] nxM_some rm_nil rm_one rm_gen nxT_some rt_nil rt_gen rt_gate nxP_some rq_nil rq_gen rq_gate nxR_some ru_nil ru_gen ru_gate nxG_some rg_nil rg_gen rg_gate nxF_some rf_nil rf_gen rf_gate ks_promote ks_freeze frz_own ks_rename ghK_some gate_tt gate_tf gate_ft gate_ff gate_u nx_some nxD_some rl_nil rl_mv rl_gen rl_gate rd_nil rd_mv rd_gen rd_gate rd_free rr_false rr_true drK_some drK_none nxW_some rw_nil rw_gen rw_gate ks_region ks_seq ks_cond ks_block seqK_n seqK_e seqK_r regK_some condK_t condK_f blkK_n blkK_r endK_n endK_r calL_some ret2_some opv_t opv_c
section
attribute [-simp] DV.cells
attribute [local simp] sliceD cells_st cells_sl cells_i cells_y cells_b cells_s cells_w
attribute [local simp] lend_eR al_eR
def stLA (us : List T) (L : LN) (f : Nat) (v : Int) (k : Nat) : LS :=
  ⟨[(0, .sl 0 (us.map e2)), (1, .sl 0 ((L.map ni).map eR)), (2, .i (f : Nat)), (7, .i v), (12, .sl 0 ((L.map ni).map eR)), (13, .i L.length), (14, .i k)], []⟩
def LaOk (us : List T) (f : Nat) : Prop := ∀ L : LN, LOk us L → L.flatten.length = f → (∀ c ∈ L, c.length ≤ 5) → L.length ≤ 5 →
    call lf n_impl_leastAlong [.sl 0 (us.map e2), .sl 0 ((L.map ni).map eR), .i (f : Nat)] = some (.i (lA us f L), [])
set_option maxHeartbeats 4000000 in
theorem la_step {us : List T} (h : tsOk us = true) {f : Nat} (hf5 : f + 1 ≤ 5) (ih : LaOk us f) {L : LN} (hL : LOk us L) (hf : L.flatten.length = f + 1) (h5 : ∀ c ∈ L, c.length ≤ 5) (ln : L.length ≤ 5) {i : Nat} (hi : i < L.length) :
    ex lf F_impl_leastAlong_L0 (stLA us L (f + 1) (m0 (gLA us L f (lA us f)) i) i) = some (.normal, stLA us L (f + 1) (m0 (gLA us L f (lA us f)) (i + 1)) (i + 1)) := by
  have h' := tsOk_iff.1 h
  have A := at_C hi
  have e : L.getD i [] = L[i] := by rw [List.getD_eq_getElem?_getD, List.getElem?_eq_getElem hi]; rfl
  rw [← e] at A
  have c5 : (L.getD i []).length ≤ 5 := by rw [e]; exact h5 _ (List.getElem_mem hi)
  have hi' : (i : Int) < L.length := by omega
  have ll : (L.map ni).length = L.length := by simp
  have w7 := wr_succ (k := i) (by omega)
  have pos : ∀ j n, gLA us L f (lA us f) j = some n → 0 < n := fun j n hn => (lA_bd h'.2 (f + 1) L hL hf).2 j n (by omega) hn
  have mb : 0 ≤ m0 (gLA us L f (lA us f)) i := by unfold m0; split <;> omega
  cases hc : L.getD i [] with
  | nil =>
    rw [hc] at A
    have e0 : gLA us L f (lA us f) i = none := by unfold gLA; rw [hc]
    rw [m0_none e0]
    generalize m0 (gLA us L f (lA us f)) i = z at *
    have n0 : (ni []).map DV.i = [] := rfl
    rw [n0] at A
    unfold stLA
    generalize L.map ni = L' at *
    simp [F_impl_leastAlong_L0, A, ll, hi, hi', w7, -Int.natCast_add]
  | cons k c =>
    rw [hc] at A c5
    obtain ⟨s1, s2, s3⟩ := lok_set hL hc
    have e0 : gLA us L f (lA us f) i = some (cA us k * 6 ^ (f + 1) + pA us k * lA us f (L.set i c)) := by unfold gLA; rw [hc]
    rw [m0_some pos e0]
    have B := c_behindPart ln (a := i) (b := 1) hi (by rw [hc]; simp) (by rw [hc]; exact c5)
    rw [hc, List.drop_one, List.tail_cons, Int.natCast_one] at B
    have I := ih (L.set i c) s2 (by omega) (fun d hd => by
      rcases List.mem_or_eq_of_mem_set hd with q | q
      · exact h5 d q
      · rw [q]; simp at c5; omega) (by simp; omega)
    have b := (lA_bd h'.2 f (L.set i c) s2 (by omega)).1
    have cb := cA_bd h'.2 s1
    have pb := pA_bd h'.2 s1
    have p := p6 (n := f) (by omega)
    have up : 9 * (f : Int) * 6 ^ f ≤ 36 * 7776 := Int.mul_le_mul (by omega) p.2 (by omega) (by omega)
    have V := c_averageAsking (n := f + 1) (no := 0) (yes := lA us f (L.set i c)) hf5 cb pb (by omega) (by omega)
    have at2 := atT s1
    have k0 : atI ((ni (k :: c)).map DV.i) 0 = some (.i k) := rfl
    have lc : ¬ ((ni (k :: c)).length = 0) := by simp [ni]
    have lc0 : ((((ni (k :: c)).length : Nat) : Int) == 0) = false := by simp [ni]; omega
    have w1 : wr (((f + 1 : Nat) : Int) - 1) = (f : Nat) := by rw [wr_id (by omega) (by omega)]; omega
    have z0 : (6 - pA us k) * 0 = 0 := by omega
    rw [z0, Int.add_zero] at V
    have lpos : 0 < (ni (k :: c)).length := by simp [ni]
    have lpos' : (0 : Int) < (ni (k :: c)).length := by omega
    have ks : (k : Int) < us.length := by omega
    have ml : ((L.set i c).map ni).length = L.length := by simp
    have ao := adopt_eRP true ((L.set i c).map ni)
    rw [show adoptP true 0 = 0 from rfl, eP_zero] at ao
    generalize (L.set i c).map ni = M at *
    generalize lA us f (L.set i c) = v at *
    generalize cA us k * 6 ^ (f + 1) + pA us k * v = n at *
    generalize cA us k = q at *
    generalize pA us k = r at *
    generalize m0 (gLA us L f (lA us f)) i = z at *
    generalize ni (k :: c) = row at *
    unfold stLA
    generalize hF : f + 1 = F at *
    generalize L.map ni = L' at *
    by_cases q1 : z = 0
    · subst q1
      rw [if_pos (Or.inl rfl)]
      simp [F_impl_leastAlong_L0, A, ll, hi, hi', w7, B, I, V, at2, k0, lc, lc0, w1, lpos, lpos', s1, ks, ml, ao, -Int.natCast_add]
    · have q1' : (z == 0) = false := by simp [q1]
      by_cases q2 : n < z
      · rw [if_pos (Or.inr q2)]
        simp [F_impl_leastAlong_L0, A, ll, hi, hi', w7, B, I, V, at2, k0, lc, lc0, w1, lpos, lpos', s1, ks, ml, ao, q1, q1', q2, -Int.natCast_add]
      · rw [if_neg (show ¬ (z = 0 ∨ n < z) by omega)]
        simp [F_impl_leastAlong_L0, A, ll, hi, hi', w7, B, I, V, at2, k0, lc, lc0, w1, lpos, lpos', s1, ks, ml, ao, q1, q1', q2, -Int.natCast_add]
set_option maxHeartbeats 1000000 in
theorem la_zero (us : List T) : LaOk us 0 := by
  intro L hL hf h5 ln
  rw [call_k lf n_impl_leastAlong _ (F := F_impl_leastAlong) rfl rfl]
  have ll : (L.map ni).length = L.length := by simp
  have em := List.flatten_eq_nil_iff.1 (List.length_eq_zero_iff.1 hf)
  have J : ex lf F_impl_leastAlong_W0 (stLA us L 0 0 0) = some (.exit 0, stLA us L 0 0 L.length) := by
    refine loop_count (lf := lf) (L := F_impl_leastAlong_L0) L.length (fun k => stLA us L 0 0 k) (fun k hk => ?_) ?_ (by simp)
    · have A := at_C hk
      rw [em _ (List.getElem_mem hk)] at A
      have hk' : (k : Int) < L.length := by omega
      have w1 := wr_succ (k := k) (by omega)
      have n0 : (ni []).map DV.i = [] := rfl
      rw [n0] at A
      show ex lf F_impl_leastAlong_L0 (stLA us L 0 0 k) = some (.normal, stLA us L 0 0 (k + 1))
      unfold stLA
      generalize L.map ni = L' at *
      simp [F_impl_leastAlong_L0, A, ll, hk, hk', w1, -Int.natCast_add]
    · show ex lf F_impl_leastAlong_L0 (stLA us L 0 0 L.length) = _
      unfold stLA
      generalize L.map ni = L' at *
      simp [F_impl_leastAlong_L0, ll]
  unfold stLA at J
  simp only [Int.natCast_zero] at J
  simp only [lA]
  generalize L.map ni = L' at *
  simp [F_impl_leastAlong, ll, J]
set_option maxHeartbeats 1000000 in
theorem c_leastAlong {us : List T} (h : tsOk us = true) : ∀ f, f ≤ 5 → LaOk us f
  | 0, _ => la_zero us
  | f + 1, hf5 => by
    have ih := c_leastAlong h f (by omega)
    intro L hL hf h5 ln
    rw [call_k lf n_impl_leastAlong _ (F := F_impl_leastAlong) rfl rfl]
    have ll : (L.map ni).length = L.length := by simp
    have J : ex lf F_impl_leastAlong_W0 (stLA us L (f + 1) (m0 (gLA us L f (lA us f)) 0) 0) = some (.exit 0, stLA us L (f + 1) (m0 (gLA us L f (lA us f)) L.length) L.length) := by
      refine loop_count (lf := lf) (L := F_impl_leastAlong_L0) L.length (fun k => stLA us L (f + 1) (m0 (gLA us L f (lA us f)) k) k) (fun k hk => la_step h hf5 ih hL hf h5 ln hk) ?_ (by simp)
      show ex lf F_impl_leastAlong_L0 (stLA us L (f + 1) (m0 (gLA us L f (lA us f)) L.length) L.length) = _
      generalize m0 (gLA us L f (lA us f)) L.length = z at *
      unfold stLA
      generalize L.map ni = L' at *
      simp [F_impl_leastAlong_L0, ll]
    rw [m0_zero] at J
    simp only [lA]
    generalize m0 (gLA us L f (lA us f)) L.length = z at *
    unfold stLA at J
    simp only [Int.natCast_zero] at J
    generalize f + 1 = F at *
    generalize L.map ni = L' at *
    simp [F_impl_leastAlong, ll, J]
set_option maxHeartbeats 1000000 in
theorem c_impl_ChainBest (us : List T) (L : List (List Int)) (ha : (us.length : Int) < 1099511627776) (hb : (L.length : Int) < 1099511627776) (hf : (L.flatten.length : Int) < 1099511627776) :
    call lf n_impl_ChainBest [.sl 0 (us.map e2), .sl 0 (L.map eR)] = some (.i (cbV us L), []) := by
  rw [call_k lf n_impl_ChainBest _ (F := F_impl_ChainBest) rfl rfl]
  have C1 := c_impl_TestsOk us ha
  have C2 := c_impl_GroupsOk us.length L hb
  unfold cbV cbO
  cases h1 : tsOk us with
  | false => rw [h1] at C1; simp [F_impl_ChainBest, C1]
  | true =>
    rw [h1] at C1
    cases h2 : gokB us.length L with
    | false => rw [h2] at C2; simp [F_impl_ChainBest, C1, C2]
    | true =>
      rw [h2] at C2
      have h' := tsOk_iff.1 h1
      obtain ⟨N, rfl, G⟩ := gok_of (m := us.length) (by omega) h2
      have gl := gok_len G
      have cn : N.length ≤ 5 := by have := flat_ge9 G.ne; omega
      have c5 : ∀ c ∈ N, c.length ≤ 5 := fun c hc => by
        obtain ⟨A, B, e⟩ := List.append_of_mem hc
        have e2 : N.flatten.length = (A ++ c :: B).flatten.length := by rw [← e]
        rw [List.flatten_append, List.flatten_cons, List.length_append, List.length_append] at e2
        omega
      have S := c_leastAlong h1 us.length (by omega) N G.lt gl c5 cn
      have E := lA_chF h'.2 G.lt
      rw [gl] at E
      rw [E] at S
      rw [natL_ni]
      generalize gD _ = Z at *
      generalize N.map ni = L at *
      simp [F_impl_ChainBest, C1, C2, S]
end
section
attribute [-simp] DV.cells
attribute [local simp] sliceD cells_st cells_sl cells_i cells_y cells_b cells_s cells_w
theorem ni_flat (N : LN) : (N.map ni).flatten = ni N.flatten := by unfold ni; rw [List.map_flatten]
theorem gok_or {m : Nat} (hm : 1 ≤ m ∧ m ≤ 5) {N : LN} (G : Gok m N) : orOk m (ni N.flatten) = true := by
  have := gok_to hm G
  unfold gokB at this
  rw [Bool.and_eq_true, ni_flat] at this
  exact this.2
theorem ni_perm {p q : List Nat} (h : p.Perm q) : (ni p).Perm (ni q) := h.map _
theorem wk_or {m : Nat} (hm : 1 ≤ m ∧ m ≤ 5) {N : LN} (G : Gok m N) {row : List Nat} (w : Wk N row) : orOk m (ni row) = true := by
  rw [orOk_perm (ni_perm (wk_perm w))]
  exact gok_or hm G
theorem chF_wk {us : List T} (h : tsOk us = true) {N : LN} (G : Gok us.length N) : Wk N (chF us us.length N) :=
  (chF_ok (tsOk_iff.1 h).2 us.length N G.lt (by have := gok_len G; omega)).1
theorem chF_least {us : List T} (h : tsOk us = true) {N : LN} (G : Gok us.length N) {row : List Nat} (w : Wk N row) : gD ((chF us us.length N).map (itC us)) ≤ gD (row.map (itC us)) := by
  have h' := (tsOk_iff.1 h).2
  have e := lA_chF h' G.lt
  have l := (lA_le h' N.flatten.length N G.lt rfl).2 row w
  rw [gok_len G] at e l
  omega
theorem raOf_row {us : List T} (h : tsOk us = true) {p : List Nat} (ho : orOk us.length (ni p) = true) : raOf us (ni p) 0 = gD (p.map (itC us)) := by
  unfold raOf raOk
  rw [h, ho, ← rA_row]
  rfl
theorem raOf_ro {us : List T} (h : tsOk us = true) : raOf us (roL us 0) 0 = rA us 0 1 (rO us 0 us.length) := by
  have rw1 : rwOk 0 = true := rfl
  have e : roL us 0 = rO us 0 us.length := by unfold roL; rw [h]; rfl
  unfold raOf raOk
  rw [e, h, rO_ok h 0]
  rfl
theorem cbO_of {us : List T} {L : List (List Int)} (h : cbO us L = true) : ∃ N : LN, L = N.map ni ∧ tsOk us = true ∧ Gok us.length N ∧ (1 ≤ us.length ∧ us.length ≤ 5) ∧ coV us L = chF us us.length N ∧ cbV us L = gD ((chF us us.length N).map (itC us)) := by
  have h0 := h
  unfold cbO at h
  rw [Bool.and_eq_true] at h
  have h' := tsOk_iff.1 h.1
  obtain ⟨N, rfl, G⟩ := gok_of (m := us.length) (by omega) h.2
  refine ⟨N, rfl, h.1, G, by omega, ?_, ?_⟩
  · unfold coV; rw [h0, natL_ni]; rfl
  · unfold cbV; rw [h0, natL_ni]; rfl
theorem cbO_to {us : List T} (h : tsOk us = true) {N : LN} (G : Gok us.length N) : cbO us (N.map ni) = true ∧ coV us (N.map ni) = chF us us.length N ∧ cbV us (N.map ni) = gD ((chF us us.length N).map (itC us)) := by
  have h' := tsOk_iff.1 h
  have o : cbO us (N.map ni) = true := by unfold cbO; rw [h, gok_to (by omega) G]; rfl
  refine ⟨o, ?_, ?_⟩
  · unfold coV; rw [o, natL_ni]; rfl
  · unfold cbV; rw [o, natL_ni]; rfl
theorem cb_nn {us : List T} {L : List (List Int)} (h : cbO us L = true) : 0 ≤ cbV us L := by
  obtain ⟨N, rfl, h1, G, hm, _, e⟩ := cbO_of h
  rw [e]
  have w := chF_wk h1 G
  refine gD_nn (itC_ok (tsOk_iff.1 h1).2 fun x hx => ?_)
  obtain ⟨c, c1, c2⟩ := List.mem_flatten.1 ((wk_perm w).mem_iff.1 hx)
  exact G.lt c c1 x c2
theorem ra_least {us : List T} (h : tsOk us = true) {N : LN} (G : Gok us.length N) {row : List Nat} (w : Wk N row) : rA us 0 1 (rO us 0 us.length) ≤ gD (row.map (itC us)) := by
  have h' := tsOk_iff.1 h
  rw [← rA_row]
  exact rO_least h (wk_or (by omega) G w)
theorem cb_ge {us : List T} {L : List (List Int)} (h : cbO us L = true) : raOf us (roL us 0) 0 ≤ cbV us L := by
  obtain ⟨N, rfl, h1, G, hm, e, e2⟩ := cbO_of h
  rw [e2, raOf_ro h1]
  exact ra_least h1 G (chF_wk h1 G)
theorem cb_one {us : List T} {c : List Int} (h : cbO us [c] = true) : cbV us [c] = raOf us c 0 := by
  obtain ⟨N, e, h1, G, hm, _, e2⟩ := cbO_of h
  have : ∃ q, N = [q] ∧ c = ni q := by
    match N, e with
    | [q], e => exact ⟨q, rfl, by simpa using e⟩
  obtain ⟨q, rfl, rfl⟩ := this
  have w := chF_wk h1 G
  have ew := wk_one w
  rw [e2, ew, raOf_row h1 (by rw [← ew]; exact wk_or hm G w)]
/-- a chain cut in two, or two made one -/
theorem cb_cut {us : List T} {x y : List Int} {R : List (List Int)} (h : cbO us ((x ++ y) :: R) = true) (hx : x ≠ []) (hy : y ≠ []) : cbO us (x :: y :: R) = true ∧ cbV us (x :: y :: R) ≤ cbV us ((x ++ y) :: R) := by
  obtain ⟨N, e, h1, G, hm, _, e2⟩ := cbO_of h
  obtain ⟨z, M, rfl⟩ : ∃ z M, N = z :: M := by
    cases N with
    | nil => cases e
    | cons z M => exact ⟨z, M, rfl⟩
  simp only [List.map_cons, List.cons.injEq] at e
  obtain ⟨ez, rfl⟩ := e
  have zx : ni (z.take x.length) = x := by
    have : (ni z).take x.length = x := by rw [← ez]; simp
    unfold ni at this ⊢
    rw [List.map_take]; exact this
  have zy : ni (z.drop x.length) = y := by
    have : (ni z).drop x.length = y := by rw [← ez]; simp
    unfold ni at this ⊢
    rw [List.map_drop]; exact this
  generalize z.take x.length = p at *
  generalize hq : z.drop x.length = q at *
  have zpq : z = p ++ q := by
    have : ni z = ni (p ++ q) := by rw [ni_app, zx, zy, ez]
    have := congrArg (List.map Int.toNat) this
    rwa [ni_toNat, ni_toNat] at this
  subst zpq
  have ef : (p :: q :: M).flatten = ((p ++ q) :: M).flatten := by simp
  have G2 : Gok us.length (p :: q :: M) := by
    refine ⟨fun g hg k hk => ?_, by rw [ef]; exact G.nd, fun k hk => by rw [ef]; exact G.all k hk, fun g hg => ?_⟩
    · rcases List.mem_cons.1 hg with r | r
      · exact G.lt (p ++ q) (by simp) k (by rw [r] at hk; simp [hk])
      · rcases List.mem_cons.1 r with r | r
        · exact G.lt (p ++ q) (by simp) k (by rw [r] at hk; simp [hk])
        · exact G.lt g (by simp [r]) k hk
    · rcases List.mem_cons.1 hg with r | r
      · rw [r]; intro e; rw [e] at zx; exact hx zx.symm
      · rcases List.mem_cons.1 r with r | r
        · rw [r]; intro e; rw [e] at zy; exact hy zy.symm
        · exact G.ne g (by simp [r])
  have w := wk_split (chF_wk h1 G) [] p q M rfl
  obtain ⟨o, _, e3⟩ := cbO_to h1 G2
  have eL : x :: y :: M.map ni = (p :: q :: M).map ni := by simp [zx, zy]
  rw [eL, e2, e3]
  exact ⟨o, chF_least h1 G2 w⟩
theorem cb_join {us : List T} {x y : List Int} {R : List (List Int)} (h : cbO us (x :: y :: R) = true) : cbV us (x :: y :: R) ≤ cbV us ((x ++ y) :: R) := by
  obtain ⟨N, e, h1, G, hm, _, _⟩ := cbO_of h
  have hx : x ≠ [] ∧ y ≠ [] := by
    match N, e, G with
    | p :: q :: M, e, G =>
      simp only [List.map_cons, List.cons.injEq] at e
      obtain ⟨rfl, rfl, _⟩ := e
      have a := G.ne p (by simp)
      have b := G.ne q (by simp)
      unfold ni
      simp [a, b]
  have h2 : cbO us ((x ++ y) :: R) = true := by
    unfold cbO gokB at h ⊢
    simp only [Bool.and_eq_true, List.all_cons, List.flatten_cons] at h ⊢
    obtain ⟨a, ⟨⟨b1, b2, b3⟩, c⟩⟩ := h
    refine ⟨a, ⟨?_, b3⟩, by simpa using c⟩
    cases x with
    | nil => exact absurd rfl hx.1
    | cons u v => rfl
  exact (cb_cut h2 hx.1 hx.2).2
end
section
attribute [-simp] DV.cells
attribute [local simp] sliceD cells_st cells_sl cells_i cells_y cells_b cells_s cells_w
attribute [local simp] lend_eR al_eR lend_eN adopt_eN new_eN
theorem roL_leD (us : List T) (row : Int) : (roL us row).length ≤ us.length := by
  unfold roL
  split
  · rw [rO_len]; exact Nat.le_refl _
  · simp
/-- the chains that were looked at, the first one cut in two if it may be -/
def cutD (c : List Int) (M : List (List Int)) : List DV := (if 1 < c.length then [.sl 3 ((c.take 1).map .i), .sl 3 ((c.drop 1).map .i)] else [.sl 1 (c.map .i)]) ++ M.map eN
def cutL (c : List Int) (M : List (List Int)) : List (List Int) := (if 1 < c.length then [c.take 1, c.drop 1] else [c]) ++ M
theorem cut_lend (c : List Int) (M : List (List Int)) : lendL (cutD c M) = (cutL c M).map eR := by
  unfold cutD cutL
  rw [lend_app, List.map_append, lend_eN]
  congr 1
  split
  · show [DV.sl 0 (lendL ((c.take 1).map .i)), DV.sl 0 (lendL ((c.drop 1).map .i))] = _
    rw [lend_i, lend_i]; rfl
  · show [DV.sl 0 (lendL (c.map .i))] = _
    rw [lend_i]; rfl
theorem cut_len (c : List Int) (M : List (List Int)) : (cutD c M).length = (cutL c M).length := by
  unfold cutD cutL
  split <;> simp
def stD9 (us : List T) (R : List (List Int)) (n : Int) (D : List DV) (k : Nat) : LS :=
  ⟨[(3, .own 6673 us.length 0 us.length), (4, .sl 1 (R.map eN)), (5, .i n), (6, .own 15880 D.length 0 D.length), (7, .i k)], [(6673, us.map e2), (15880, D)]⟩
set_option maxHeartbeats 8000000 in
theorem d9_zero (us : List T) {R : List (List Int)} {n : Int} {c : List Int} (hc : R[0]? = some c) (hR : R.length ≤ 6) (h6 : c.length ≤ 6) : ex lf F_laws_FnChainBest_L0 (stD9 us R n [] 0) = some (.normal, stD9 us R n (cutD c []) 1) := by
  have a0 : atI (R.map eN) 0 = some (.sl 1 (c.map .i)) := by
    show (R.map eN)[0]? = _
    rw [List.getElem?_map, hc]; rfl
  have a1 : atN (R.map eN) 0 = some (.sl 1 (c.map .i)) := by
    show (R.map eN)[0]? = _
    rw [List.getElem?_map, hc]; rfl
  have r0 : 0 < R.length := by
    rcases Nat.lt_or_ge 0 R.length with h | h
    · exact h
    · rw [List.getElem?_eq_none h] at hc; cases hc
  have r0' : (0 : Int) < R.length := by omega
  have cb : 1 ≤ bound ∧ 2 ≤ bound := by unfold bound; omega
  have w1 : wr 1 = 1 := wr_id (by omega) (by omega)
  unfold stD9 cutD
  by_cases q : 1 < c.length
  · have q' : (1 : Int) < c.length := by omega
    have q1 : 1 ≤ c.length := by omega
    have q1' : (1 : Int) ≤ c.length := by omega
    have t1 : List.take 1 (c.map DV.i) = (c.take 1).map .i := by rw [List.map_take]
    have t2 : (c.map DV.i).tail = (c.drop 1).map .i := by rw [List.map_drop, List.drop_one]
    have t3 : List.take c.length (c.map DV.i) = c.map .i := List.take_of_length_le (by simp)
    rw [if_pos q]
    generalize (c.take 1).map DV.i = u at *
    generalize (c.drop 1).map DV.i = v at *
    simp (config := { maxSteps := 2000000 }) [F_laws_FnChainBest_L0, a0, a1, r0, r0', q, q', q1, q1', t1, t2, t3, w1, cb.1, cb.2, -Int.natCast_add]
  · have q' : ¬ (1 : Int) < c.length := by omega
    rw [if_neg q]
    simp (config := { maxSteps := 2000000 }) [F_laws_FnChainBest_L0, a0, a1, r0, r0', q, q', w1, cb.1, cb.2, -Int.natCast_add]
set_option maxHeartbeats 8000000 in
theorem d9_succ (us : List T) {R : List (List Int)} {n : Int} {D : List DV} {k : Nat} (hk1 : 1 ≤ k) {r : List Int} (hr : R[k]? = some r) (hR : R.length ≤ 6) (hD : D.length ≤ 10) : ex lf F_laws_FnChainBest_L0 (stD9 us R n D k) = some (.normal, stD9 us R n (D ++ [eN r]) (k + 1)) := by
  have e0 : (R.map eN)[k]? = some (.sl 1 (r.map .i)) := by rw [List.getElem?_map, hr]; rfl
  have a0 : atI (R.map eN) (k : Int) = some (.sl 1 (r.map .i)) := by
    simp only [atI, if_pos (Int.natCast_nonneg k)]
    show (R.map eN)[(k : Int).toNat]? = _
    rw [Int.toNat_natCast]; exact e0
  have a1 : atN (R.map eN) k = some (.sl 1 (r.map .i)) := e0
  have r0 : k < R.length := (List.getElem?_eq_some_iff.1 hr).1
  have r0' : (k : Int) < R.length := by omega
  have cb : D.length + 1 ≤ bound := by unfold bound; omega
  have w1 := wr_succ (k := k) (by omega)
  have k0 : ((k : Int) == 0) = false := by simp; omega
  have k0' : ¬ k = 0 := by omega
  have dl : (D ++ [eN r]).length = D.length + 1 := by simp
  unfold stD9
  rw [dl]
  simp (config := { maxSteps := 2000000 }) [F_laws_FnChainBest_L0, a0, a1, r0, r0', cb, w1, k0, k0', eN, -Int.natCast_add]
set_option maxHeartbeats 8000000 in
theorem d9_loop (us : List T) {c : List Int} {M : List (List Int)} {n : Int} (hR : M.length ≤ 5) (h6 : c.length ≤ 6) : ex lf F_laws_FnChainBest_W0 (stD9 us (c :: M) n [] 0) = some (.exit 0, stD9 us (c :: M) n (cutD c M) (M.length + 1)) := by
  have last : ∀ D : List DV, ex lf F_laws_FnChainBest_L0 (stD9 us (c :: M) n D (M.length + 1)) = some (.exit 0, stD9 us (c :: M) n D (M.length + 1)) := fun D => by
    have e : ((c :: M).map eN).length = M.length + 1 := by simp
    unfold stD9
    generalize (c :: M).map eN = B at *
    simp [F_laws_FnChainBest_L0, e, -Int.natCast_add]
  have run : ∀ (d k : Nat), k + d = M.length → ex lf F_laws_FnChainBest_W0 (stD9 us (c :: M) n (cutD c (M.take k)) (k + 1)) = some (.exit 0, stD9 us (c :: M) n (cutD c M) (M.length + 1)) := by
    intro d
    induction d with
    | zero =>
      intro k hk
      have e : k = M.length := by omega
      subst e
      rw [List.take_length, w_laws_FnChainBest_0, last]
    | succ d ih =>
      intro k hk
      have hk' : k < M.length := by omega
      have S := d9_succ us (R := c :: M) (n := n) (D := cutD c (M.take k)) (k := k + 1) (by omega) (r := M[k]) (by simp [hk']) (by simp; omega) (by rw [cut_len]; unfold cutL; rw [List.length_append, List.length_take]; split <;> simp <;> omega)
      have e : cutD c (M.take k) ++ [eN M[k]] = cutD c (M.take (k + 1)) := by
        unfold cutD
        rw [List.append_assoc, List.take_add_one (l := M) (i := k), List.getElem?_eq_getElem hk', List.map_append]
        rfl
      rw [e] at S
      rw [w_laws_FnChainBest_0, S]
      exact ih (k + 1) (by omega)
  have S := d9_zero us (R := c :: M) (n := n) (c := c) rfl (by simp; omega) h6
  rw [w_laws_FnChainBest_0, S]
  have := run M.length 0 (by omega)
  rw [List.take_zero] at this
  exact this
theorem cb_cutL {us : List T} {c : List Int} {M : List (List Int)} (h : cbO us (c :: M) = true) : cbO us (cutL c M) = true ∧ cbV us (cutL c M) ≤ cbV us (c :: M) := by
  unfold cutL
  by_cases q : 1 < c.length
  · rw [if_pos q]
    have e : c.take 1 ++ c.drop 1 = c := List.take_append_drop 1 c
    have h2 : cbO us ((c.take 1 ++ c.drop 1) :: M) = true := by rw [e]; exact h
    have := cb_cut h2 (fun e => by have := congrArg List.length e; rw [List.length_take, List.length_nil] at this; omega) (fun e => by have := congrArg List.length e; rw [List.length_drop, List.length_nil] at this; omega)
    rw [e] at this
    exact this
  · rw [if_neg q]
    exact ⟨h, Int.le_refl _⟩
set_option maxHeartbeats 16000000 in
theorem law_FnChainBest (x : List Nat) (_ : x.length ≤ Go.maxLen) (hb : ∀ y ∈ x, y < 256) : call lf n_laws_FnChainBest [bys x] = some (.b true, []) := by
  show call lf n_laws_FnChainBest [.sl 0 (x.map .y)] = _
  rw [call_k lf n_laws_FnChainBest _ (F := F_laws_FnChainBest) rfl rfl]
  by_cases hl : 1048576 < (x.length : Int)
  · simp (config := { maxSteps := 2000000 }) [F_laws_FnChainBest, hl]
  · obtain ⟨us, R, u1, r1, r2, d⟩ := c_DrawChainBest hb (by omega)
    have C1 := c_impl_ChainBest us R (by omega) (by omega) (by omega)
    have C2 := c_spec_ChainBest us R (by omega) (by omega) (by omega)
    have lb1 : us.length ≤ bound := by unfold bound; omega
    have lb2 : R.length ≤ bound := by unfold bound; omega
    have tk1 := tk_e2 us
    have tk2 : List.take R.length (R.map eN) = R.map eN := List.take_of_length_le (by simp)
    cases h : cbO us R with
    | false =>
      have e : cbV us R = -1 := by unfold cbV; rw [h]; rfl
      rw [e] at C1 C2
      simp (config := { maxSteps := 2000000 }) [F_laws_FnChainBest, hl, d, C1, C2, lb1, lb2, tk1, tk2, c_alive]
    | true =>
      have n0 : ¬ cbV us R < 0 := by have := cb_nn h; omega
      obtain ⟨c, M, hR⟩ : ∃ c M, R = c :: M := by
        cases R with
        | nil =>
          obtain ⟨N, e, h1, G, hm, _⟩ := cbO_of h
          have := G.all 0 (by omega)
          have : N = [] := by simpa using e.symm
          subst this
          simp at *
        | cons c M => exact ⟨c, M, rfl⟩
      have rl : R.length = M.length + 1 := by rw [hR]; rfl
      have cl : c.length + M.flatten.length ≤ 6 := by rw [hR] at r2; simpa using r2
      have L := d9_loop us (c := c) (M := M) (n := cbV us R) (by omega) (by omega)
      rw [← hR] at L
      have K := cb_cutL (us := us) (c := c) (M := M) (by rw [← hR]; exact h)
      rw [← hR] at K
      have fl : (cutL c M).flatten.length ≤ 6 := by
        unfold cutL
        split
        · have := congrArg List.length (List.take_append_drop 1 c)
          rw [List.length_append] at this
          simp only [List.cons_append, List.nil_append, List.flatten_cons, List.length_append]
          omega
        · simpa using cl
      have ll : (cutL c M).length ≤ 7 := by unfold cutL; rw [List.length_append]; split <;> simp <;> omega
      have C3 := c_impl_ChainBest us (cutL c M) (by omega) (by omega) (by omega)
      have rl0 := roL_leD us 0
      have RO := c_impl_RatioOrder us 0 (by omega)
      have W3 := c_impl_RowAverage us (roL us 0) 0 (by omega) (by omega)
      have ge := cb_ge h
      have lb5 : (roL us 0).length ≤ bound := by unfold bound; omega
      have tk5 : List.take (roL us 0).length ((roL us 0).map DV.i) = (roL us 0).map .i := List.take_of_length_le (by simp)
      have le := cut_lend c M
      have lm := cut_len c M
      have tk4 : List.take (cutD c M).length (cutD c M) = cutD c M := List.take_of_length_le (by omega)
      have k2 := K.2
      rw [← le] at C3
      unfold stD9 at L
      rw [← rl] at L
      simp only [List.length_nil, Int.natCast_zero] at L
      by_cases q : M = []
      · have W1 := c_impl_RowAverage us c 0 (by omega) (by omega)
        have e1 : cbV us R = raOf us c 0 := by rw [hR, q]; exact cb_one (by rw [hR, q] at h; exact h)
        rw [← e1] at W1
        have q1 : ¬ (1 : Int) < R.length := by rw [rl, q]; simp
        have q2 : ¬ 1 < R.length := by rw [rl, q]; simp
        have q3 : 0 < R.length := by omega
        have q4 : (0 : Int) < R.length := by omega
        have a0 : atI (R.map eN) 0 = some (.sl 1 (c.map .i)) := by rw [hR]; rfl
        have a1 : atN (R.map eN) 0 = some (.sl 1 (c.map .i)) := by rw [hR]; rfl
        clear hR rl e1
        generalize cutD c M = D at *
        generalize cbV us (cutL c M) = v1 at *
        generalize raOf us (roL us 0) 0 = v2 at *
        generalize cbV us R = v3 at *
        generalize roL us 0 = r at *
        simp (config := { maxSteps := 2000000 }) [F_laws_FnChainBest, hl, d, C1, C2, C3, n0, L, RO, W1, W3, ge, k2, a0, a1, q1, q2, q3, q4, lb1, lb2, lb5, tk1, tk2, tk4, tk5, c_alive]
      · have ml : 0 < M.length := List.length_pos_iff.2 q
        have q1 : (1 : Int) < R.length := by rw [rl]; omega
        have q2 : 1 < R.length := by omega
        clear hR rl
        generalize cutD c M = D at *
        generalize cbV us (cutL c M) = v1 at *
        generalize raOf us (roL us 0) 0 = v2 at *
        generalize cbV us R = v3 at *
        generalize roL us 0 = r at *
        simp (config := { maxSteps := 2000000 }) [F_laws_FnChainBest, hl, d, C1, C2, C3, n0, L, RO, W3, ge, k2, q1, q2, lb1, lb2, lb5, tk1, tk2, tk4, tk5, c_alive]
end
section
attribute [-simp] DV.cells
attribute [local simp] sliceD cells_st cells_sl cells_i cells_y cells_b cells_s cells_w
attribute [local simp] lend_eR al_eR lend_eN adopt_eN new_eN
set_option maxHeartbeats 16000000 in
theorem law_FnChainJoin (x : List Nat) (_ : x.length ≤ Go.maxLen) (hb : ∀ y ∈ x, y < 256) : call lf n_laws_FnChainJoin [bys x] = some (.b true, []) := by
  show call lf n_laws_FnChainJoin [.sl 0 (x.map .y)] = _
  rw [call_k lf n_laws_FnChainJoin _ (F := F_laws_FnChainJoin) rfl rfl]
  by_cases hl : 1048576 < (x.length : Int)
  · simp (config := { maxSteps := 2000000 }) [F_laws_FnChainJoin, hl]
  · obtain ⟨us, R, u1, r1, r2, d⟩ := c_DrawChainBest hb (by omega)
    have C1 := c_impl_ChainBest us R (by omega) (by omega) (by omega)
    have lb1 : us.length ≤ bound := by unfold bound; omega
    have lb2 : R.length ≤ bound := by unfold bound; omega
    have tk1 := tk_e2 us
    have tk2 : List.take R.length (R.map eN) = R.map eN := List.take_of_length_le (by simp)
    cases h : cbO us R with
    | false =>
      have e : cbV us R = -1 := by unfold cbV; rw [h]; rfl
      rw [e] at C1
      simp (config := { maxSteps := 2000000 }) [F_laws_FnChainJoin, hl, d, C1, lb1, lb2, tk1, tk2, c_alive]
    | true =>
      have nn := cb_nn h
      have n0 : ¬ cbV us R < 0 := by omega
      have n1 : -1 ≤ cbV us R := by omega
      by_cases q : R.length < 2
      · have q' : (R.length : Int) < 2 := by omega
        generalize cbV us R = v at *
        simp (config := { maxSteps := 2000000 }) [F_laws_FnChainJoin, hl, d, C1, n0, n1, q, q', lb1, lb2, tk1, tk2, c_alive]
      · obtain ⟨a, b, M, hR⟩ : ∃ a b M, R = a :: b :: M := by
          match R, q with
          | a :: b :: M, _ => exact ⟨a, b, M, rfl⟩
          | [], q => exact absurd (by simp) q
          | [a], q => exact absurd (by simp) q
        have q' : ¬ (R.length : Int) < 2 := by omega
        have rl : R.length = M.length + 2 := by rw [hR]; rfl
        have cl : a.length + (b.length + M.flatten.length) ≤ 6 := by rw [hR] at r2; simpa using r2
        have J := cb_join (us := us) (x := a) (y := b) (R := M) (by rw [← hR]; exact h)
        rw [← hR] at J
        have C3 := c_impl_ChainBest us ((a ++ b) :: M) (by omega) (by simp; omega) (by rw [List.flatten_cons, List.length_append, List.length_append]; omega)
        have q0 : 0 < R.length := by omega
        have q0' : (0 : Int) < R.length := by omega
        have q1 : 1 < R.length := by omega
        have q1' : (1 : Int) < R.length := by omega
        have q2 : 2 ≤ R.length := by omega
        have q2' : (2 : Int) ≤ R.length := by omega
        have em : (M.length + 1 = 1 + M.length) = True := by simp; omega
        have a0 : atI (R.map eN) 0 = some (.sl 1 (a.map .i)) := by rw [hR]; rfl
        have a1 : atN (R.map eN) 0 = some (.sl 1 (a.map .i)) := by rw [hR]; rfl
        have a2 : atI (R.map eN) 1 = some (.sl 1 (b.map .i)) := by rw [hR]; rfl
        have a3 : atN (R.map eN) 1 = some (.sl 1 (b.map .i)) := by rw [hR]; rfl
        have d2 : List.drop 2 (List.take R.length (R.map eN)) = M.map eN := by rw [tk2, hR]; rfl
        have d3 : List.drop 2 (R.map eN) = M.map eN := by rw [hR]; rfl
        have bd1 : a.length ≤ bound := by unfold bound; omega
        have bd2 : a.length + b.length ≤ bound := by unfold bound; omega
        have bd3 : 1 + M.length ≤ bound := by unfold bound; omega
        have ml : (M.map eN).length = M.length := by simp
        have rm : R.length - 2 = M.length := by omega
        have ma : ∀ e ∈ M.map eN, e.cells.length = 1 := fun e he => by
          obtain ⟨r, _, rfl⟩ := List.mem_map.1 he; rfl
        have ab : (a.map DV.i ++ b.map DV.i) = (a ++ b).map .i := by rw [List.map_append]
        have abl : (a ++ b).length = a.length + b.length := by simp
        have e3 : ((a ++ b) :: M).map eR = .sl 0 ((a ++ b).map .i) :: M.map eR := rfl
        have lM := lend_eN M
        have tk3 : List.take (1 + M.length) (.sl 1 ((a ++ b).map .i) :: M.map eN) = .sl 1 ((a ++ b).map .i) :: M.map eN := List.take_of_length_le (by simp; omega)
        have tk4 : List.take (a.length + b.length) ((a ++ b).map DV.i) = (a ++ b).map .i := List.take_of_length_le (by simp)
        rw [e3] at C3
        clear hR rl
        generalize cbV us ((a ++ b) :: M) = v1 at *
        generalize cbV us R = v at *
        generalize (a ++ b) = ab2 at *
        generalize M.map eN = B at *
        generalize M.map eR = B2 at *
        simp (config := { maxSteps := 2000000 }) [F_laws_FnChainJoin, hl, d, C1, C3, n0, n1, q, q', q0, q0', q1, q1', q2, q2', em, a0, a1, a2, a3, d2, d3, bd1, bd2, bd3, ml, rm, if_pos ma, ab, abl, lM, tk3, tk4, J, lb1, lb2, tk1, tk2, c_alive]
end
end Zz
