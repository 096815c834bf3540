/- What the functions answer, as equations: EB. No conditions. -/
import Derived.Test.YtahkmbihhkjebabDoorEAzo
set_option linter.unusedSectionVars false
set_option linter.unusedVariables false
set_option linter.unusedSimpArgs false
namespace Zz
open Go.Lg Md
set_option linter.unusedSimpArgs false
set_option linter.unusedVariables false
attribute [local simp] tm_mv tm_newnil tm_pick tm_bin tm_eqb tm_eqs tm_un tm_len tm_lens tm_chk tm_fld tm_fldv tm_idxa tm_idx tm_load tm_store tm_slice tm_slices tm_make tm_alloc tm_box tm_build tm_app tm_conv tm_ext tm_call tm_calld tm_mkfn tm_mm tm_idxp tm_eqn tm_callg tm_callm tm_bslice0 tm_bslice1 tm_bslice2 tm_bslice nt_nil nt_cons nc_nil' nc_cons sa_mkfn cv_adr cv_i cv_y cv_b cv_w sa_calld nm_def nh_nil nh_cons nxM_some nxM_none sc_st sd_i sd_y sd_b sd_s sd_w sd_q sc_i sc_y sc_b sc_s sc_w sc_q sa_bslice sa_app nc_own nc_nil sa_call sa_alloc sa_build sa_callm rm_nil rm_gen bq_mul bq_eql ia_mv ia_newnil ia_pick ia_bin ia_eqb ia_eqs ia_un ia_len ia_lens ia_chk ia_fld ia_fldv ia_idxa ia_idx ia_load ia_store ia_slice ia_slices ia_make ia_alloc ia_box ia_build ia_bslice ia_app ia_b2i ia_i2b ia_i2i ia_same ia_b2s ia_s2b ia_ext ia_mm ia_idxp ia_calld ia_mkfn ia_i2r ia_r2s ia_call pt_nil pt_cons mi_nil mi_cons md_bslice md_mv md_newnil md_pick md_bin md_eqb md_un md_len md_lens md_fld md_fldv md_idxa md_idx md_load md_store md_slice md_slices md_make md_alloc md_box md_build md_app md_conv md_ext md_call md_calld md_callg md_mkfn md_mm md_idxp md_eqn md_eqs md_chk tg_bslice tg_mv tg_newnil tg_pick tg_bin tg_eqb tg_un tg_len tg_lens tg_fld tg_fldv tg_idxa tg_idx tg_load tg_store tg_slice tg_slices tg_make tg_alloc tg_box tg_build tg_app tg_conv tg_ext tg_call tg_calld tg_callg tg_mkfn tg_mm tg_idxp tg_eqn tg_eqs tg_chk rp_eq ro_eq ifP_t ifP_f np_def ng1_nil ng2_nil ng_gate ng_gen tgA_t tgA_0 tgA_1 tgA_2 aC_nil aC_c aC_t nxP_some nxP_none rq_nil rq_gen rq_gate nxR_some nxR_none ru_nil ru_gen ru_gate pl_none pl_some gt_nil gt_t gt_c di_some di_none an_nil an_cons nxG_some nxG_none rg_nil rg_gen rg_gate oldO_some oa_nil oa_i oa_y oa_b oa_s oa_st oa_sl oa_own oa_oad oa_nl al_nil al_cons al_i al_y al_b al_s al_st al_sl nxF_some nxF_none rf_nil rf_gen rf_gate hk_newnil hk_make hk_alloc hk_box hk_build hk_bslice hk_call hk_store hk_app hk_appn em_cel mm_cel ok_cel ov_cel so_cel il_cel oi_cel oj_cel ol_cel nm_cel hk_appc ef_bslice5 ef_app_cel ks_shut shu_own shc_none shc_cel cl_nil cl_cons ai_nil ai_cons il_i il_y il_b il_s il_st il_sl il_own il_adr il_oad il_ref il_fr il_tup il_nil il_np il_und il_dead ol_adr ol_b ol_dead ol_e ol_fn ol_fr ol_i ol_nil ol_np ol_oad ol_own ol_q ol_r ol_ref ol_s ol_sl ol_st ol_tup ol_und ol_w ol_y oj_e oj_i oj_y oj_b oj_s oj_st oj_sl oj_own oj_adr oj_oad oj_ref oj_fr oj_tup oj_nil oj_np oj_und oj_dead oj_w oj_q oj_r oj_fn oi_e oi_i oi_y oi_b oi_s oi_st oi_sl oi_own oi_adr oi_oad oi_ref oi_fr oi_tup oi_nil oi_np oi_und oi_dead as_nil as_cons ao_nil ao_cons av_i av_y av_b av_s av_st av_sl av_own av_adr av_oad av_ref av_fr av_tup av_nil av_np av_und av_dead pro_cons ghK_some ks_promote ks_freeze frz_own ks_rename ren_own dropO adoptP newP wholeP cutP allOldL ex_skip ex_ret ex_exit ks_region ks_seq ks_cond ks_block seqK_n seqK_e seqK_r regK_some condK_t condK_f blkK_n blkK_r blkK_e endK_n endK_r rr_false rr_true rd_free mo_nil mo_cons drK_some drK_none nxW_some nxW_none rw_nil rw_gen rw_gate ak_newnil ak_make ak_alloc ak_box ak_build ak_bslice ak_call ak_store ak_app iw_mm iw_eqn iw_idxp ef_callg cgK_some gv_e gv_own gv_i gv_sl gv_st gv_b gv_nil gvK_some gvO_some iw_callg ia_callg ak_callg hk_callg is_mv is_newnil is_pick is_bin is_eqb is_eqs is_un is_len is_lens is_chk is_fld is_fldv is_idxa is_idx is_load is_slice is_slices is_make is_alloc is_box is_build is_bslice is_app is_conv is_ext is_call is_calld is_callg is_mkfn is_mm is_idxp is_eqn is_store rt_nil rt_gen rt_gate nxT_some nxT_none ef_eqn_nil ef_eqn_sl ef_eqn_own ia_eqn ef_mmx ef_mmn ef_idxp nxD_some nxD_none ov_i ov_y ov_b ov_s ov_st ov_sl ov_own ov_oad ov_adr ov_nil ov_np ov_und ov_dead ov_tup oldN_some oldN_nil oldN_none so_none so_i so_y so_b so_s so_st so_sl so_adr so_nil so_np so_und so_dead anyM_nil anyM_t anyM_c so_own so_oad rd_nil rd_gen rd_mv rd_gate iw_mv iw_newnil iw_pick iw_bin iw_eqb iw_eqs iw_un iw_len iw_lens iw_chk iw_fld iw_fldv iw_idxa iw_idx iw_load iw_store iw_slice iw_slices iw_make iw_alloc iw_box iw_build iw_bslice iw_app iw_b2i iw_i2b iw_i2i iw_same iw_b2s iw_s2b iw_ext iw_call nm_i nm_y nm_b nm_s nm_st nm_sl nm_own nm_oad nm_adr nm_nil nm_np nm_und nm_dead nm_tup rl_nil rl_gate rl_mv rl_gen opv_t opv_c nx_some nx_none gate_tt gate_tf gate_ft gate_ff gate_u fr_ap em_nil em_i em_y em_b em_s em_st em_sl em_own em_adr em_oad em_ref em_nl em_np em_und em_dead em_tup0 em_tup_i em_tup_b em_tup_s em_tup_sl em_tup_st em_tup_np em_tup_own em_tup_oad mm_i mm_y mm_b mm_s mm_st mm_sl mm_own mm_oad mm_adr mm_nil mm_np mm_und mm_dead ef_mv ef_newnil ef_pickt ef_pickf ef_bin ef_eqb ef_eqs ef_un ef_lens ef_len_sl ef_len_own ef_len_nil ef_chk_adr ef_chk_oad ef_fld_adr ef_fld_oad ef_fldv idxR_some ef_idxa_sl ef_idxa_own ef_idx ef_load_adr_st ef_load_adr_i ef_load_adr_y ef_load_adr_b ef_load_adr_s ef_load_adr_sl atN_nil atN_zero atN_succ ef_load_oad ef_store ef_slice ef_slices ef_make ef_alloc ef_box ef_build ef_bslice ef_app_own ef_app_nil ef_b2i ef_i2b ef_i2i ef_same ef_ext ret1 ret2_some calL_some ef_call retC_i retC_y retC_b retC_s retC_st retC_sl retC_np retC_fr retC_ref retC_tup rk_nil rk_i rk_y rk_b rk_s rk_st rk_sl rk_own rk_oad rk_nl ok_nil ok_i ok_y ok_b ok_s ok_st ok_sl ok_own ok_oad ok_nl lo_nil lo_i lo_y lo_b lo_s lo_st lo_sl lo_own lo_oad lo_nl pr_nil pr_i pr_y pr_b pr_s pr_st pr_sl pr_own pr_nl pr_oad nr_i nr_y nr_b nr_s nr_st nr_sl nr_fr nr_np nr_tup ng_i ng_b ng_s ng_fr ng_nil resV effP_eff binD bi_add bi_sub bi_mul bi_quo bi_rem bi_eql bi_neq bi_lss bi_leq bi_gtr bi_geq bi_shl bi_shr bi_and bi_or bi_xor bi_andNot binY binS unD look put putD LS.get LS.drop killE sweep lookO putO dropO enter leave giveBackL giveBack outs lendArgs lendArg newOuts takeIn takeInL lendL DV.lend adoptL DV.adopt elems apartKs part DV.cells unpart settle settleL over mkId szId fillP fillE tk_e2 tk_i tk_y lt_e2 lt_i lt_y lend_rep al_e2 al_is al_ys al_rep al_app lend_app adopt_app new_app lend_e2 lend_i lend_y adopt_e2 adopt_i adopt_y new_e2 new_i allNewL DV.allNew bounds sliceD sliceS em_w em_q em_r em_fn em_tup_w em_tup_q em_tup_r mm_w mm_q mm_r mm_fn ef_load_adr_w ef_load_adr_q ef_load_adr_r retC_w retC_q retC_r rk_w rk_q rk_r rk_fn ok_w ok_q ok_r ok_fn lo_w lo_q lo_r lo_fn pr_w pr_q pr_r pr_fn nr_w nr_q nr_r ng_w ng_q ng_r oa_w oa_q oa_r oa_fn al_w al_q al_r al_fn ov_w ov_q ov_r ov_fn so_w so_q so_r so_fn il_w il_q il_r il_fn oi_w oi_q oi_r oi_fn av_w av_q av_r av_fn nm_w nm_q nm_r nm_fn ef_i2r ef_r2s ef_mkfn ef_mkbd ef_idxp_adr ef_idxp_q ef_calld_nil ef_calld_adr ef_calld_bd DV.capB capsOk DV.cell List.all_cons List.all_nil rk_own_t lo_own_t lk_f lk_t pr_own_t mutB ak_calld hk_calld iw_calld iw_mkfn iw_i2r iw_r2s bw_and bw_or bw_xor bw_andNot bw_eql bw_neq sw_shl sw_shr sq_shl gEnv_nil rk_adr ok_adr lo_adr pr_adr oa_adr capL capArg DV.cap ak_mkfn hk_mkfn hk_mkbd ef_callm gf_ap ga_nil ga_cons tgv_own gk_e gk_giv gk_i gk_y gk_b gk_s gk_w gk_q gk_r gk_fn gk_st gk_sl gk_own gk_oad gk_adr gk_nl gk_np rk_giv ok_giv lo_giv pr_giv oa_giv iw_callm hk_callm ak_callm is_callm ia_callm tg_callm md_callm ef_i2q ef_q2i ef_q2q iw_i2q iw_q2i iw_q2q ia_i2q ia_q2i ia_q2q bq_and bq_add bq_shr sq_shr tgv_nil gk_ref rk_ref ok_ref lo_ref pr_ref oa_ref retC_fn nr_fn ef_load_adr_fn ks_close cls_oad
attribute [local congr] nxM_congr ifP_congr nxP_congr nxR_congr nxT_congr nxG_congr nxF_congr ghK_congr gate_congr nx_congr nxD_congr runL_congr runD_congr eff_congr calL_congr ret2_congr seqK_congr regK_congr condK_congr endK_congr drK_congr nxW_congr
attribute [local simp ↓] nxM_some rm_nil rm_gen nxT_some rt_nil rt_gen rt_gate nxP_some rq_nil rq_gen rq_gate nxR_some ru_nil ru_gen ru_gate nxG_some rg_nil rg_gen rg_gate nxF_some rf_nil rf_gen rf_gate ks_promote ks_freeze frz_own ks_rename ghK_some gate_tt gate_tf gate_ft gate_ff gate_u nx_some nxD_some rl_nil rl_mv rl_gen rl_gate rd_nil rd_mv rd_gen rd_gate rd_free rr_false rr_true drK_some drK_none nxW_some rw_nil rw_gen rw_gate ks_region ks_seq ks_cond ks_block seqK_n seqK_e seqK_r regK_some condK_t condK_f blkK_n blkK_r endK_n endK_r calL_some ret2_some opv_t opv_c
section
attribute [-simp] DV.cells sliceD
attribute [local simp] cells_st cells_sl cells_i cells_y cells_b cells_s cells_w
theorem c_impl_turnedStates (v : BitVec 32) (k : Nat) (hk : k < 5) : call lf n_impl_turnedStates [.w v, .i k] = some (.w (tnW v k), []) := by
  rw [call_k lf n_impl_turnedStates _ (F := F_impl_turnedStates) rfl rfl]
  have ya := yes_at hk
  have n2 : ¬ ((k : Int) < 0) := by omega
  have hk' : (k : Int) < 5 := by omega
  have c : k = 0 ∨ k = 1 ∨ k = 2 ∨ k = 3 ∨ k = 4 := by omega
  rcases c with rfl | rfl | rfl | rfl | rfl <;> simp [F_impl_turnedStates, gEnv_2, n2, hk', ya, tnW, shrW] <;> (try rfl)
theorem c_impl_openStates {m : Int} (h0 : 0 ≤ m) (h5 : m ≤ 5) (v : BitVec 32) (so : Nat) : call lf n_impl_openStates [.i m, .w v, .i so] = some (.w (opW so v m.toNat &&& opW so (~~~ v) m.toNat), []) := by
  have L := loop_count (lf := lf) (L := F_impl_openStates_L0) m.toNat (fun i => ⟨[(2, .i so), (7, .w (opW so v i)), (8, .w (opW so (~~~ v) i)), (13, .i m), (14, .i i)], []⟩) (x := .exit 0) (R := ⟨[(2, .i so), (7, .w (opW so v m.toNat)), (8, .w (opW so (~~~ v) m.toNat)), (13, .i m), (14, .i m)], []⟩) (fun i hi => by
    have hi' : (i : Int) < m := by omega
    have H := c_impl_hasTest so i (by omega)
    have T := fun v => c_impl_turnedStates v i (by omega)
    have w1 : wr ((i : Int) + 1) = i + 1 := wr_id (by omega) (by omega)
    have e : ∀ v, opW so v (i + 1) = if so.testBit i then opW so v i else opW so v i ||| tnW (opW so v i) i := fun _ => rfl
    simp only [e]
    cases hb : so.testBit i with
    | true =>
      rw [hb] at H
      simp [F_impl_openStates_L0, hi', H, w1]
    | false =>
      rw [hb] at H
      simp [F_impl_openStates_L0, hi', H, T, w1]) (by
    have : ((m.toNat : Nat) : Int) = m := by omega
    simp [F_impl_openStates_L0, this]) (by simp)
  have L' : ex lf F_impl_openStates_W0 ⟨[(2, .i so), (7, .w v), (8, .w (~~~ v)), (13, .i m), (14, .i 0)], []⟩ = some (.exit 0, ⟨[(2, .i so), (7, .w (opW so v m.toNat)), (8, .w (opW so (~~~ v) m.toNat)), (13, .i m), (14, .i m)], []⟩) := L
  rw [call_k lf n_impl_openStates _ (F := F_impl_openStates) rfl rfl]
  simp [F_impl_openStates, L']
end
section
attribute [-simp] DV.cells sliceD
attribute [local simp] cells_st cells_sl cells_i cells_y cells_b cells_s cells_w
theorem non_succ (k : Nat) : non (k + 1) = non k ++ [-1] := by unfold non; rw [List.replicate_succ']
theorem non_len (k : Nat) : (non k).length = k := by simp [non]
theorem c_spec_l4None {m : Int} (h0 : 0 ≤ m) (h5 : m ≤ 5) : call lf n_spec_l4None [.i m] = some (.fr 1 ((non m.toNat).map .i), []) := by
  obtain ⟨n, rfl⟩ := Int.eq_ofNat_of_zero_le h0
  have L := loop_count (lf := lf) (L := F_spec_l4None_L0) n (fun i => ⟨[(0, .i n), (3, .own 2568 i 0 i), (4, .i i)], [(2568, (non i).map .i)]⟩) (x := .exit 0) (R := ⟨[(0, .i n), (3, .own 2568 n 0 n), (4, .i n)], [(2568, (non n).map .i)]⟩) (fun i hi => by
    have w1 : wr ((i : Int) + 1) = i + 1 := wr_id (by omega) (by omega)
    have lb : i + 1 ≤ bound := by unfold bound; omega
    have e := non_succ i
    have tl := non_len i
    simp [F_spec_l4None_L0, hi, w1, lb, e, tl]) (by simp [F_spec_l4None_L0]) (by simp)
  rw [call_k lf n_spec_l4None _ (F := F_spec_l4None) rfl rfl]
  have L' : ex lf F_spec_l4None_W0 ⟨[(0, .i n), (3, .own 2568 0 0 0), (4, .i 0)], [(2568, [])]⟩ = some (.exit 0, ⟨[(0, .i n), (3, .own 2568 n 0 n), (4, .i n)], [(2568, (non n).map .i)]⟩) := L
  have tl := non_len n
  simp [F_spec_l4None, L', tl]
end
section
attribute [-simp] DV.cells sliceD
attribute [local simp] cells_st cells_sl cells_i cells_y cells_b cells_s cells_w
theorem cA_at {us : List T} {a : Int} (h0 : 0 ≤ a) (h1 : a < us.length) : ∃ c q : Int, atI (us.map e2) a = some (.st [.i c, .i q]) ∧ c = cA us a.toNat ∧ us.getD a.toNat (0, 0) = (c, q) := by
  have hl : a.toNat < us.length := by omega
  have e : us.getD a.toNat (0, 0) = us[a.toNat] := by simp [List.getD, hl]
  refine ⟨us[a.toNat].1, us[a.toNat].2, ?_, ?_, e⟩
  · simp only [atI, if_pos h0]
    show (us.map e2)[a.toNat]? = _
    simp [hl, e2]
  · unfold cA; rw [e]
theorem cO_bd {us : List T} (h : us.all tOk = true) : ∀ os : List Int, 0 ≤ cO us os ∧ cO us os ≤ 9 * os.length
  | [] => by simp [cO]
  | a :: r => by
    have := cO_bd h r
    have := cA_nn h a.toNat
    simp only [cO, List.length_cons]; omega
end
section
attribute [-simp] DV.cells sliceD
attribute [local simp] cells_st cells_sl cells_i cells_y cells_b cells_s cells_w
theorem p6 : ∀ {n : Nat}, n ≤ 5 → (1 : Int) ≤ 6 ^ n ∧ (6 : Int) ^ n ≤ 7776 := by
  intro n hn
  have : n = 0 ∨ n = 1 ∨ n = 2 ∨ n = 3 ∨ n = 4 ∨ n = 5 := by omega
  rcases this with rfl | rfl | rfl | rfl | rfl | rfl <;> decide
theorem c_spec_l1Power {n : Nat} (h : n ≤ 5) : call lf n_spec_l1Power [.i n] = some (.i (6 ^ n), []) := by
  have L := loop_count (lf := lf) (L := F_spec_l1Power_L0) n (fun i => ⟨[(0, .i n), (3, .i (6 ^ i)), (4, .i i)], []⟩) (x := .exit 0) (R := ⟨[(0, .i n), (3, .i (6 ^ n)), (4, .i n)], []⟩) (fun i hi => by
    have p := p6 (n := i) (by omega)
    have w1 : wr ((i : Int) + 1) = i + 1 := wr_id (by omega) (by omega)
    have w2 : wr ((6 : Int) ^ i * 6) = 6 ^ (i + 1) := by rw [wr_id (by omega) (by omega), Int.pow_succ]
    simp [F_spec_l1Power_L0, hi, w1, w2]) (by simp [F_spec_l1Power_L0]) (by simp)
  have L' : ex lf F_spec_l1Power_W0 ⟨[(0, .i n), (3, .i 1), (4, .i 0)], []⟩ = some (.exit 0, ⟨[(0, .i n), (3, .i (6 ^ n)), (4, .i n)], []⟩) := L
  rw [call_k lf n_spec_l1Power _ (F := F_spec_l1Power) rfl rfl]
  simp [F_spec_l1Power, L']
def stW (us : List T) (tab : Nat) (os : List Int) (k : Nat) (ks : List Int) (w a sum sd : Int) : LS :=
  ⟨[(0, .sl 0 (us.map e2)), (1, .i tab), (2, .sl 0 (os.map .i)), (3, .i k), (4, .sl 0 (ks.map .i)), (5, .i w), (13, .i a), (14, .i sum), (15, .i sd)], []⟩
theorem lend_set (l : List Int) (j : Nat) (v : Int) : lendL ((l.map DV.i).set j (.i v)) = (l.map .i).set j (.i v) := by
  rw [show (l.map DV.i).set j (.i v) = (l.set j v).map .i by rw [List.map_set]]
  exact lend_i _
end
section
attribute [-simp] DV.cells sliceD
attribute [local simp] cells_st cells_sl cells_i cells_y cells_b cells_s cells_w
def owL (us t : List T) (N i : Nat) : List Int := (List.range N).map fun k => if k < i then owT us t k else 0
theorem owL_len (us t : List T) (N i : Nat) : (owL us t N i).length = N := by simp [owL]
theorem owL_set {us t : List T} {N i : Nat} (hi : i < N) : (owL us t N i).set i (owT us t i) = owL us t N (i + 1) := by
  apply List.ext_getElem?
  intro k
  by_cases h : k < N
  · by_cases e : k = i
    · subst e
      rw [List.getElem?_set_self (by simp [owL_len, hi])]
      simp [owL, h]
    · rw [List.getElem?_set_ne (fun q => e q.symm)]
      have e' : k < i ↔ k < i + 1 := by omega
      simp [owL, h, e']
  · rw [List.getElem?_eq_none (by simp [owL_len]; omega), List.getElem?_eq_none (by simp [owL_len]; omega)]
def stO (us : List T) (v : BitVec 32) (m N : Nat) (ws : List Int) (i : Nat) : LS :=
  ⟨[(0, .sl 0 (us.map e2)), (1, .w v), (5, .i m), (6, .own 6152 N 0 N), (14, .i N), (15, .i i)], [(6152, ws.map .i)]⟩
/-- the weight of the states that some tests leave open -/
theorem c_openW {us t : List T} (h1 : tsOk us = true) (h2 : tmOk us.length t = true) (so : Nat) : call lf n_impl_weightOfStates [.sl 0 (us.map e2), .w (opW so (tsW t) us.length &&& opW so (~~~ tsW t) us.length)] = some (.i (owT us t so), []) := by
  have C := c_impl_weightOfStates h1 (opW so (tsW t) us.length &&& opW so (~~~ tsW t) us.length)
  have e : wsW us (opW so (tsW t) us.length &&& opW so (~~~ tsW t) us.length) (2 ^ us.length) = owT us t so := by
    unfold wsW owT
    refine sumTo_congr fun s hs => ?_
    have b := open_bit (so := so) h2 (s := s) (by rw [Int.toNat_natCast]; exact hs)
    rw [Int.toNat_natCast] at b
    rw [b]
    cases prf us.length t s so <;> rfl
  rw [e] at C
  exact C
theorem c_impl_openWeights {us t : List T} (h1 : tsOk us = true) (h2 : tmOk us.length t = true) : call lf n_impl_openWeights [.sl 0 (us.map e2), .w (tsW t)] = some (.fr 1 ((owL us t (2 ^ us.length) (2 ^ us.length)).map .i), []) := by
  have h' := tsOk_iff.1 h1
  obtain ⟨p1, p2, p3⟩ := pow5 (m := us.length) (by omega) (by omega)
  simp only [Int.toNat_natCast] at p1 p2 p3
  have C4 := c_impl_statesOf us.length (by omega) (by omega)
  simp only [Int.toNat_natCast] at C4
  have L := loop_count (lf := lf) (L := F_impl_openWeights_L0) (2 ^ us.length) (fun i => stO us (tsW t) us.length (2 ^ us.length) (owL us t (2 ^ us.length) i) i) (x := .exit 0) (R := stO us (tsW t) us.length (2 ^ us.length) (owL us t (2 ^ us.length) (2 ^ us.length)) (2 ^ us.length)) (fun i hi => by
    have O := c_impl_openStates (m := us.length) (by omega) (by omega) (tsW t) i
    have I := c_openW h1 h2 i
    have w1 : wr ((i : Int) + 1) = ((i + 1 : Nat) : Int) := by rw [wr_id (by omega) (by omega)]; omega
    have hN : ((2 ^ us.length : Nat) : Int) = 2 ^ us.length := p3
    rw [← hN] at C4
    rw [Int.toNat_natCast] at O
    have ll := owL_len us t (2 ^ us.length) i
    have st := owL_set (us := us) (t := t) (N := 2 ^ us.length) (i := i) hi
    unfold stO
    rw [← st]
    generalize hg : (2 ^ us.length : Nat) = N at *
    have hin : (i : Int) < (N : Int) := by omega
    have hiN : i < N := hi
    obtain ⟨x, hx⟩ : ∃ x : Int, atN ((owL us t N i).map DV.i) i = some (.i x) := ⟨(owL us t N i)[i]'(by omega), by show ((owL us t N i).map DV.i)[i]? = _; rw [List.getElem?_map, List.getElem?_eq_getElem (by omega)]; rfl⟩
    simp only [List.map_set]
    simp [F_impl_openWeights_L0, hin, hiN, O, I, w1, ll, hx, -Int.natCast_add]) (by
    unfold stO
    simp [F_impl_openWeights_L0]) (by simp)
  have z : owL us t (2 ^ us.length) 0 = List.replicate (2 ^ us.length) 0 := by
    unfold owL
    simp
    apply List.ext_getElem? 
    intro k
    by_cases h : k < 2 ^ us.length <;> simp [h]
  rw [z] at L
  unfold stO at L
  have lb : ((2 ^ us.length : Nat) : Int) ≤ (bound : Int) := by unfold bound; omega
  have ll := owL_len us t (2 ^ us.length) (2 ^ us.length)
  have hN : ((2 ^ us.length : Nat) : Int) = 2 ^ us.length := p3
  rw [← hN] at C4
  rw [call_k lf n_impl_openWeights _ (F := F_impl_openWeights) rfl rfl]
  generalize hg : (2 ^ us.length : Nat) = N at *
  simp only [Int.natCast_zero, List.map_replicate] at L
  change ex lf F_impl_openWeights_W0 _ = _ at L
  have n0 : ¬ ((N : Int) < 0) := by omega
  simp [F_impl_openWeights, C4, L, lb, ll]
end
section
attribute [-simp] DV.cells sliceD
attribute [local simp] cells_st cells_sl cells_i cells_y cells_b cells_s cells_w
theorem ren_nil (t id : Nat) (e : Env) (ob : OB) : renL t id e ob .nil = some ⟨e, ob⟩ := rfl
/-- what comes back: nothing is nil -/
def bR (l : List Int) : DV := if l = [] then .sl 1 [] else .fr 1 (l.map .i)
def stB (us : List T) (ws : List Int) (so N i : Nat) (D : DV) (l : Int) (ob : OB) : LS :=
  ⟨[(0, .sl 0 (us.map e2)), (1, .sl 0 (ws.map .i)), (2, .i so), (8, D), (9, .i l), (14, .sl 0 (us.map e2)), (15, .i N), (16, .i i)], ob⟩
def bD (K : Nat) (b : List Int) : DV := if b = [] then .nil else .own K b.length 0 b.length
def bO (K : Nat) (b : List Int) : OB := if b = [] then [] else [(K, b.map .i)]
theorem bb_no {us : List T} {ws : List Int} {so N i K : Nat} {b : List Int} {l : Int} (hK : K = 4104 ∨ K = 26120) (hi : i < us.length) (hN : N = us.length) (h5 : N ≤ 5) (hb : so.testBit i = true) :
    ex lf F_impl_bestBehind_L0 (stB us ws so N i (bD K b) l (bO K b)) = some (.normal, stB us ws so N (i + 1) (bD 4104 b) l (bO 4104 b)) := by
  have H := c_impl_hasTest so i (by omega)
  rw [hb] at H
  have hin : (i : Int) < (N : Int) := by omega
  have w1 : wr ((i : Int) + 1) = ((i + 1 : Nat) : Int) := by rw [wr_id (by omega) (by omega)]; omega
  obtain ⟨c, q, c1, _, _⟩ := cA_at (us := us) (a := i) (by omega) (by omega)
  unfold stB bD bO
  by_cases hb0 : b = []
  · simp [F_impl_bestBehind_L0, ren_nil, hb0, hin, H, w1, c1, -Int.natCast_add]
  · rcases hK with rfl | rfl
    · simp [F_impl_bestBehind_L0, ren_nil, hb0, hin, H, w1, c1, -Int.natCast_add]
    · simp [F_impl_bestBehind_L0, ren_nil, hb0, hin, H, w1, c1, -Int.natCast_add]
set_option maxHeartbeats 4000000 in
theorem bb_yes {us : List T} {ws : List Int} {so N i K : Nat} {b r1 : List Int} {l r2 c o : Int} (hK : K = 4104 ∨ K = 26120) (hi : i < us.length) (hN : N = us.length) (h5 : N ≤ 5) (hso : so < 32) (hb : so.testBit i = false) (hr : r1.length ≤ 5)
    (C : call lf n_impl_bestBehind [.sl 0 (us.map e2), .sl 0 (ws.map .i), .i ((so ||| 2 ^ i : Nat) : Int)] = some (.tup [bR r1, .i r2], []))
    (hc : c = cA us i) (ho : atI (ws.map .i) so = some (.i o)) (c9 : 1 ≤ c ∧ c ≤ 9) (o9 : 0 ≤ o ∧ o ≤ 7776) (hr2 : 0 ≤ r2 ∧ r2 ≤ 1000000) :
    ex lf F_impl_bestBehind_L0 (stB us ws so N i (bD K b) l (bO K b)) = some (.normal, if b = [] ∨ r2 + c * o < l then stB us ws so N (i + 1) (bD 26120 ((i : Int) :: r1)) (r2 + c * o) (bO 26120 ((i : Int) :: r1)) else stB us ws so N (i + 1) (bD 4104 b) l (bO 4104 b)) := by
  have H := c_impl_hasTest so i (by omega)
  rw [hb] at H
  have hin : (i : Int) < (N : Int) := by omega
  have w1 : wr ((i : Int) + 1) = ((i + 1 : Nat) : Int) := by rw [wr_id (by omega) (by omega)]; omega
  obtain ⟨c', q, c1, c2, _⟩ := cA_at (us := us) (a := i) (by omega) (by omega)
  rw [Int.toNat_natCast] at c2
  have cc : c' = c := by rw [c2, hc]
  subst cc
  have oi := or_i (so := so) (a := i) hso (by omega) (by omega)
  rw [Int.toNat_natCast] at oi
  have n0 : ¬ ((i : Int) < 0) := by omega
  have b1 : 0 ≤ c' * o := Int.mul_nonneg (by omega) o9.1
  have b2 : c' * o ≤ 9 * 7776 := Int.mul_le_mul c9.2 o9.2 o9.1 (by omega)
  have w2 : wr (c' * o) = c' * o := wr_id (by omega) (by omega)
  have w3 : wr (r2 + c' * o) = r2 + c' * o := wr_id (by omega) (by omega)
  have lb : 1 + r1.length ≤ bound := by unfold bound; omega
  have lb' : r1.length + 1 ≤ bound := by unfold bound; omega
  have lb1 : 1 ≤ bound := by unfold bound; omega
  have sl : (so : Int) < ws.length := by
    by_cases h : (so : Int) < ws.length
    · exact h
    · simp only [atI, if_pos (Int.natCast_nonneg so)] at ho
      have : (ws.map DV.i)[(so : Int).toNat]? = none := List.getElem?_eq_none (by simp; omega)
      rw [this] at ho; cases ho
  have sl' : so < ws.length := by omega
  have ac : 1 + r1.length = r1.length + 1 := by omega
  generalize so ||| 2 ^ i = so2 at *
  unfold bR at C
  unfold stB bD bO
  by_cases hb0 : b = []
  · subst hb0
    by_cases hr0 : r1 = []
    · subst hr0
      simp at C
      simp [F_impl_bestBehind_L0, ren_nil, hin, H, w1, c1, oi, n0, C, ho, sl, sl', w2, w3, lb1, -Int.natCast_add]
    · rw [if_neg hr0] at C
      simp [F_impl_bestBehind_L0, ren_nil, hin, H, w1, c1, oi, n0, C, ho, sl, sl', w2, w3, lb, lb', ac, hr0, -Int.natCast_add]
  · have bl : 0 < b.length := List.length_pos_iff.2 hb0
    by_cases hlt : r2 + c' * o < l
    · by_cases hr0 : r1 = []
      · subst hr0
        simp at C
        rcases hK with rfl | rfl <;> simp [F_impl_bestBehind_L0, ren_nil, hb0, hin, H, w1, c1, oi, n0, C, ho, sl, sl', w2, w3, lb1, hlt, -Int.natCast_add]
      · rw [if_neg hr0] at C
        rcases hK with rfl | rfl <;> simp [F_impl_bestBehind_L0, ren_nil, hb0, hin, H, w1, c1, oi, n0, C, ho, sl, sl', w2, w3, lb, lb', ac, hr0, hlt, -Int.natCast_add]
    · by_cases hr0 : r1 = []
      · subst hr0
        simp at C
        rcases hK with rfl | rfl <;> simp [F_impl_bestBehind_L0, ren_nil, hb0, hin, H, w1, c1, oi, n0, C, ho, sl, sl', w2, w3, lb1, hlt, -Int.natCast_add]
      · rw [if_neg hr0] at C
        rcases hK with rfl | rfl <;> simp [F_impl_bestBehind_L0, ren_nil, hb0, hin, H, w1, c1, oi, n0, C, ho, sl, sl', w2, w3, lb, lb', ac, hr0, hlt, -Int.natCast_add]
end
section
attribute [-simp] DV.cells sliceD
attribute [local simp] cells_st cells_sl cells_i cells_y cells_b cells_s cells_w
theorem bb_loop {us t : List T} (h1 : tsOk us = true) {ws : List Int} {so : Nat} (hso : so < 2 ^ us.length) {rec : Nat → List Int × Int} (hw : atI (ws.map .i) so = some (.i (owT us t so)))
    (hr : ∀ k, k < us.length → so.testBit k = false → call lf n_impl_bestBehind [.sl 0 (us.map e2), .sl 0 (ws.map .i), .i ((so ||| 2 ^ k : Nat) : Int)] = some (.tup [bR (rec (so ||| 2 ^ k)).1, .i (rec (so ||| 2 ^ k)).2], []) ∧
      (rec (so ||| 2 ^ k)).1.length ≤ 5 ∧ 0 ≤ (rec (so ||| 2 ^ k)).2 ∧ (rec (so ||| 2 ^ k)).2 ≤ 1000000) :
    ∀ (j i K : Nat), i + j = us.length → (K = 4104 ∨ K = 26120) →
    ex lf F_impl_bestBehind_W0 (stB us ws so us.length i (bD K (bbL us t rec so i).1) (bbL us t rec so i).2 (bO K (bbL us t rec so i).1)) =
    some (.exit 0, stB us ws so us.length us.length (bD 4104 (bbL us t rec so us.length).1) (bbL us t rec so us.length).2 (bO 4104 (bbL us t rec so us.length).1)) := by
  have h' := tsOk_iff.1 h1
  obtain ⟨p1, p2, p3⟩ := pow5 (m := us.length) (by omega) (by omega)
  simp only [Int.toNat_natCast] at p1 p2 p3
  intro j
  induction j with
  | zero =>
    intro i K hij hK
    have : i = us.length := by omega
    subst this
    rw [w_impl_bestBehind_0]
    generalize bbL us t rec so us.length = P
    obtain ⟨b, l⟩ := P
    unfold stB bD bO
    by_cases hb0 : b = []
    · simp [F_impl_bestBehind_L0, ren_nil, hb0]
    · rcases hK with rfl | rfl <;> simp [F_impl_bestBehind_L0, ren_nil, hb0]
  | succ j ih =>
    intro i K hij hK
    rw [w_impl_bestBehind_0]
    cases hb : so.testBit i with
    | true =>
      have e : bbL us t rec so (i + 1) = bbL us t rec so i := by rw [bbL, if_pos hb]
      have ih := ih (i + 1) 4104 (by omega) (.inl rfl)
      rw [e] at ih
      rw [bb_no hK (by omega) rfl (by omega) hb]
      exact ih
    | false =>
      obtain ⟨r1, r2, r3, r4⟩ := hr i (by omega) hb
      have cn := cA_nn h'.2 i
      have ob := owT_bound h1 t so
      have k6 := p6 (n := us.length) (by omega)
      rw [bb_yes hK (by omega) rfl (by omega) (by omega) hb r2 r1 rfl hw (by omega) (by omega) (by omega)]
      have e : bbL us t rec so (i + 1) = if (bbL us t rec so i).1 = [] ∨ (rec (so ||| 2 ^ i)).2 + cA us i * owT us t so < (bbL us t rec so i).2 then ((i : Int) :: (rec (so ||| 2 ^ i)).1, (rec (so ||| 2 ^ i)).2 + cA us i * owT us t so) else bbL us t rec so i := by
        rw [bbL, hb, if_neg (by simp)]
      have ih1 := ih (i + 1) 26120 (by omega) (.inr rfl)
      have ih2 := ih (i + 1) 4104 (by omega) (.inl rfl)
      rw [e] at ih1 ih2
      by_cases hc : (bbL us t rec so i).1 = [] ∨ (rec (so ||| 2 ^ i)).2 + cA us i * owT us t so < (bbL us t rec so i).2
      · rw [if_pos hc] at ih1
        rw [if_pos hc]
        exact ih1
      · rw [if_neg hc] at ih2
        rw [if_neg hc]
        exact ih2
theorem owL_at {us t : List T} {N so : Nat} (h : so < N) : atI ((owL us t N N).map .i) so = some (.i (owT us t so)) := by
  simp only [atI, if_pos (Int.natCast_nonneg so)]
  show ((owL us t N N).map DV.i)[(so : Int).toNat]? = _
  simp [owL, h]
theorem bb_ret {us : List T} {ws : List Int} {so : Nat} {b : List Int} {l : Int} (L : ex lf F_impl_bestBehind_W0 (stB us ws so us.length 0 .nil 0 []) = some (.exit 0, stB us ws so us.length us.length (bD 4104 b) l (bO 4104 b))) :
    call lf n_impl_bestBehind [.sl 0 (us.map e2), .sl 0 (ws.map .i), .i so] = some (.tup [bR b, .i l], []) := by
  unfold stB at L
  rw [call_k lf n_impl_bestBehind _ (F := F_impl_bestBehind) rfl rfl]
  unfold bD bO at L
  unfold bR
  by_cases hb0 : b = []
  · rw [if_pos hb0, if_pos hb0] at L
    rw [if_pos hb0]
    simp at L
    simp [F_impl_bestBehind, L]
  · rw [if_neg hb0, if_neg hb0] at L
    rw [if_neg hb0]
    simp at L
    simp [F_impl_bestBehind, L]
theorem c_impl_bestBehind {us t : List T} (h1 : tsOk us = true) : ∀ (f so : Nat), so < 2 ^ us.length → uc so us.length = f →
    call lf n_impl_bestBehind [.sl 0 (us.map e2), .sl 0 ((owL us t (2 ^ us.length) (2 ^ us.length)).map .i), .i so] = some (.tup [bR (bbF us t f so).1, .i (bbF us t f so).2], []) := by
  have h' := tsOk_iff.1 h1
  intro f
  induction f with
  | zero =>
    intro so hso hu
    have ua := uc_all hu
    have e : ∀ i, i ≤ us.length → bbL us t (bbF us t 0) so i = ([], 0) := by
      intro i
      induction i with
      | zero => intro _; rfl
      | succ i ih => intro hi; rw [bbL, if_pos (ua i (by omega))]; exact ih (by omega)
    have L := bb_loop h1 hso (rec := bbF us t 0) (t := t) (owL_at hso) (fun k hk hb => by rw [ua k hk] at hb; cases hb) us.length 0 4104 (by omega) (.inl rfl)
    rw [e us.length (Nat.le_refl _)] at L
    exact bb_ret L
  | succ f ih =>
    intro so hso hu
    have L := bb_loop h1 hso (rec := bbF us t f) (t := t) (owL_at hso) (fun k hk hb => by
      have u := uc_or hk hb
      have lt := or_lt2 hso hk
      have B := bbF_ok (us := us) (t := t) (f := f) (so := so ||| 2 ^ k) (by omega)
      obtain ⟨B1, B2, B3, _⟩ := B
      have ul := uc_le (so ||| 2 ^ k) us.length
      have n0 := cC_nn h1 t (so ||| 2 ^ k) (bbF us t f (so ||| 2 ^ k)).1
      have n1 := cC_le h1 t (so ||| 2 ^ k) (bbF us t f (so ||| 2 ^ k)).1
      have n2 := cO_bd h'.2 (bbF us t f (so ||| 2 ^ k)).1
      have k6 := p6 (n := us.length) (by omega)
      have n3 : 6 ^ us.length * cO us (bbF us t f (so ||| 2 ^ k)).1 ≤ 7776 * 45 := Int.mul_le_mul k6.2 (by omega) n2.1 (by omega)
      exact ⟨ih _ lt (by omega), by omega, by omega, by omega⟩) us.length 0 4104 (by omega) (.inl rfl)
    exact bb_ret L
def boOk (us t : List T) : Bool := tsOk us && tmOk us.length t
theorem boF_ne {us : List T} (h1 : tsOk us = true) (t : List T) : (boF us t).1 ≠ [] := by
  have h' := tsOk_iff.1 h1
  obtain ⟨_, h2, _⟩ := boF_ok us t
  intro h0
  rw [h0] at h2
  simp at h2; omega
def boL (us t : List T) : List Int := if boOk us t = true then (boF us t).1 else []
def boN (us t : List T) : Int := if boOk us t = true then (boF us t).2 else -1
theorem c_impl_BestOrder (us t : List T) (ha : (us.length : Int) < 1099511627776) (hb : (t.length : Int) < 1099511627776) :
    call lf n_impl_BestOrder [.sl 0 (us.map e2), .sl 0 (t.map e2)] = some (.tup [.fr 1 ((boL us t).map .i), .i (boN us t)], []) := by
  rw [call_k lf n_impl_BestOrder _ (F := F_impl_BestOrder) rfl rfl]
  have C1 := c_impl_TestsOk us ha
  have C2 := c_impl_TermOk us.length t hb
  unfold boL boN boOk
  cases h1 : tsOk us with
  | false => rw [h1] at C1; simp [F_impl_BestOrder, C1]
  | true =>
    rw [h1] at C1
    cases h2 : tmOk us.length t with
    | false => rw [h2] at C2; simp [F_impl_BestOrder, C1, C2]
    | true =>
      rw [h2] at C2
      have C3 := c_impl_trueStates h2
      have C4 := c_impl_openWeights h1 h2
      have C5 := c_impl_bestBehind (t := t) h1 us.length 0 (Nat.pow_pos (by omega)) (uc_zero _)
      rw [show bbF us t us.length 0 = boF us t from rfl] at C5
      have ne := boF_ne h1 t
      unfold bR at C5
      rw [if_neg ne] at C5
      simp only [Int.natCast_zero] at C5
      have ll := owL_len us t (2 ^ us.length) (2 ^ us.length)
      have t1 : List.take (2 ^ us.length) ((owL us t (2 ^ us.length) (2 ^ us.length)).map DV.i) = (owL us t (2 ^ us.length) (2 ^ us.length)).map .i := List.take_of_length_le (by simp [ll])
      simp [F_impl_BestOrder, C1, C2, C3, C4, C5, ll, t1]
end
section
attribute [-simp] DV.cells
attribute [local simp] sliceD cells_st cells_sl cells_i cells_y cells_b cells_s cells_w
def rwL (m row : Int) : List T := if nOk m && rwOk row then rowT m.toNat row else []
theorem rowT_succ (i : Nat) (row : Int) : rowT (i + 1) row = rowT i row ++ (if i = 0 then [(0, 0)] else [(0, (i : Int)), (2 + row, 0)]) := by
  simp [rowT, List.range_succ]
theorem rowT_len (i : Nat) (row : Int) : (rowT (i + 1) row).length = 2 * i + 1 := by
  induction i with
  | zero => rfl
  | succ i ih => rw [rowT_succ, List.length_append, ih, if_neg (by omega)]; simp; omega
def raOk (us : List T) (os : List Int) (row : Int) : Bool := tsOk us && orOk us.length os && rwOk row
def raOf (us : List T) (os : List Int) (row : Int) : Int := if raOk us os row then rA us row 1 os else -1
theorem p6le {i j : Nat} (h : i + j ≤ 5) {on : Int} (h0 : 0 ≤ on) (h1 : on ≤ 6 ^ i) : 0 ≤ on * 6 ^ j ∧ on * 6 ^ j ≤ 7776 := by
  have pj := p6 (n := j) (by omega)
  have q := (p6 h).2
  rw [Int.pow_add] at q
  have := Int.mul_le_mul_of_nonneg_right h1 (show (0 : Int) ≤ 6 ^ j by omega)
  have := Int.mul_nonneg h0 (show (0 : Int) ≤ 6 ^ j by omega)
  omega
end
section
attribute [-simp] DV.cells
attribute [local simp] sliceD cells_st cells_sl cells_i cells_y cells_b cells_s cells_w
def insPos (us : List T) (row k : Int) : List Int → Nat
  | [] => 0
  | o :: r => if rLe us row o k = true then insPos us row k r + 1 else 0
theorem insPos_le (us : List T) (row k : Int) : ∀ l : List Int, insPos us row k l ≤ l.length
  | [] => Nat.le_refl _
  | o :: r => by
    have := insPos_le us row k r
    simp only [insPos, List.length_cons]
    split <;> omega
theorem insR_pos (us : List T) (row k : Int) : ∀ l : List Int, insR us row k l = l.take (insPos us row k l) ++ k :: l.drop (insPos us row k l)
  | [] => rfl
  | o :: r => by
    simp only [insR, insPos]
    by_cases h : rLe us row o k = true
    · rw [if_pos h, if_pos h, insR_pos us row k r]; simp
    · rw [if_neg h, if_neg h]; simp
end
section
attribute [-simp] DV.cells
attribute [local simp] sliceD cells_st cells_sl cells_i cells_y cells_b cells_s cells_w
def roL (us : List T) (row : Int) : List Int := if tsOk us && rwOk row then rO us row us.length else []
end
section
inductive PT where
  | stop
  | ask (k : Nat) (no yes : PT)
/-- how many are not known -/
def uk : List Int → Nat
  | [] => 0
  | k :: r => (if k = -1 then 1 else 0) + uk r
theorem uk_set {b : Int} (hb : b ≠ -1) : ∀ {ks : List Int} {k : Nat}, ks[k]? = some (-1) → uk (ks.set k b) + 1 = uk ks
  | [], k, h => by simp at h
  | x :: r, 0, h => by
    simp only [List.getElem?_cons_zero, Option.some.injEq] at h
    subst h
    simp only [List.set_cons_zero, uk, if_neg hb, if_true]
    omega
  | x :: r, k + 1, h => by
    simp only [List.getElem?_cons_succ] at h
    have := uk_set hb h
    simp only [List.set_cons_succ, uk]
    omega
theorem uk_le : ∀ ks : List Int, uk ks ≤ ks.length
  | [] => Nat.le_refl _
  | k :: r => by have := uk_le r; simp only [uk, List.length_cons]; split <;> omega
theorem uk_zero : ∀ {ks : List Int}, uk ks = 0 → ∀ k : Nat, ks[k]? ≠ some (-1)
  | [], _, k, h => by simp at h
  | x :: r, h, 0, hk => by
    simp only [List.getElem?_cons_zero, Option.some.injEq] at hk
    simp [uk, hk] at h
  | x :: r, h, k + 1, hk => by
    simp only [List.getElem?_cons_succ] at hk
    simp only [uk] at h
    exact uk_zero (by omega) k hk
theorem uk_none : ∀ {ks : List Int}, (∀ k : Nat, ks[k]? ≠ some (-1)) → uk ks = 0
  | [], _ => rfl
  | x :: r, h => by
    have h0 := h 0
    simp only [List.getElem?_cons_zero, ne_eq, Option.some.injEq] at h0
    simp only [uk]
    rw [if_neg h0, uk_none fun k hk => h (k + 1) (by simpa using hk)]
theorem uk_pos {ks : List Int} {k : Nat} (h : ks[k]? = some (-1)) : 0 < uk ks := by
  cases hu : uk ks with
  | zero => exact absurd h (uk_zero hu k)
  | succ n => omega
theorem uk_non (m : Nat) : uk (non m) = m := by
  induction m with
  | zero => rfl
  | succ n ih =>
    show uk (List.replicate (n + 1) (-1)) = n + 1
    rw [List.replicate_succ, uk, if_pos rfl, show List.replicate n (-1 : Int) = non n from rfl, ih]
    omega
/-- one more is known: what the weights are then -/
theorem wk_put : ∀ {us : List T} {ks : List Int} {k : Nat}, ks.length = us.length → ks[k]? = some (-1) →
    ∃ w, wk us ks = 6 * w ∧ wk us (ks.set k 0) = w * (6 - (us.getD k (0, 0)).2) ∧ wk us (ks.set k 1) = w * (us.getD k (0, 0)).2
  | _, [], k, _, h => by simp at h
  | [], x :: r, k, hl, h => by simp at hl
  | t :: us, x :: r, 0, hl, h => by
    simp only [List.getElem?_cons_zero, Option.some.injEq] at h
    subst h
    refine ⟨wk us r, rfl, ?_, ?_⟩
    · show (6 - t.2) * wk us r = _
      rw [Int.mul_comm]; rfl
    · show t.2 * wk us r = _
      rw [Int.mul_comm]; rfl
  | t :: us, x :: r, k + 1, hl, h => by
    simp only [List.getElem?_cons_succ] at h
    obtain ⟨w, h1, h2, h3⟩ := wk_put (us := us) (by simpa using hl) h
    have e : ∀ ks : List Int, wk (t :: us) (x :: ks) = (if x = -1 then 6 else if x = 1 then t.2 else 6 - t.2) * wk us ks := fun _ => rfl
    generalize hc : (if x = -1 then 6 else if x = 1 then t.2 else 6 - t.2) = c at e
    refine ⟨c * w, ?_, ?_, ?_⟩
    · rw [e, h1, Int.mul_left_comm]
    · rw [List.set_cons_succ, e, h2, Int.mul_assoc]; rfl
    · rw [List.set_cons_succ, e, h3, Int.mul_assoc]; rfl
theorem wk_div {us : List T} {ks : List Int} {k : Nat} (hl : ks.length = us.length) (h : ks[k]? = some (-1)) :
    (wk us ks).tdiv 6 * (6 - (us.getD k (0, 0)).2) = wk us (ks.set k 0) ∧ (wk us ks).tdiv 6 * (us.getD k (0, 0)).2 = wk us (ks.set k 1) := by
  obtain ⟨w, h1, h2, h3⟩ := wk_put hl h
  rw [h1, Int.mul_tdiv_cancel_left _ (by omega), h2, h3]
  exact ⟨rfl, rfl⟩
theorem wk_two {us : List T} {ks : List Int} {k : Nat} (hl : ks.length = us.length) (h : ks[k]? = some (-1)) : wk us (ks.set k 0) + wk us (ks.set k 1) = wk us ks := by
  obtain ⟨w, h1, h2, h3⟩ := wk_put hl h
  rw [h1, h2, h3, ← Int.mul_add, Int.mul_comm]
  congr 1
  omega
theorem agB_put {b : Bool} {s : Nat} : ∀ {ks : List Int} {k : Nat}, ks[k]? = some (-1) → agB (ks.set k (bI b)) s = (agB ks s && (s.testBit k == b)) := by
  intro ks k h
  rw [Bool.eq_iff_iff, Bool.and_eq_true, agB_iff, agB_iff, beq_iff_eq]
  have hk : k < ks.length := (List.getElem?_eq_some_iff.1 h).1
  constructor
  · intro H
    refine ⟨fun j v hj => ?_, ?_⟩
    · by_cases e : j = k
      · subst e; rw [h] at hj; injection hj with hj; exact .inl hj.symm
      · exact H j v (by rw [List.getElem?_set_ne (Ne.symm e)]; exact hj)
    · rcases H k (bI b) (by rw [List.getElem?_set_self hk]) with q | q
      · cases b <;> simp [bI] at q
      · exact (bI_inj.1 q).symm
  · rintro ⟨H, hb⟩ j v hj
    by_cases e : j = k
    · subst e
      rw [List.getElem?_set_self hk] at hj
      injection hj with hj
      right
      rw [← hj, hb]
    · rw [List.getElem?_set_ne (Ne.symm e)] at hj
      exact H j v hj
theorem bI_0 : bI false = 0 := rfl
theorem bI_1 : bI true = 1 := rfl
theorem kOk_set {ks : List Int} (h : ks.all kOk = true) (k : Nat) (b : Bool) : (ks.set k (bI b)).all kOk = true := by
  rw [List.all_eq_true] at h ⊢
  intro x hx
  rcases List.mem_or_eq_of_mem_set hx with h1 | h1
  · exact h x h1
  · rw [h1]; cases b <;> decide
theorem non_all (m : Nat) : (non m).all kOk = true := by
  rw [List.all_eq_true]
  intro x hx
  rw [List.eq_of_mem_replicate hx]
  decide
theorem agB_non (m s : Nat) : agB (non m) s = true := by
  rw [agB_iff]
  intro k v h
  left
  exact List.eq_of_mem_replicate (List.mem_of_getElem? h)
def fcd (m : Nat) (t : List T) (ks : List Int) : Bool := foT m t ks != -1
theorem fcd_iff {m : Nat} {t : List T} {ks : List Int} (hl : ks.length = m) (hk : ks.all kOk = true) : fcd m t ks = true ↔ ∃ b, ∀ s, s < 2 ^ m → agB ks s = true → tv t s = b := by
  subst hl
  have hne := agB_some hk
  have F := fun b => fo_b (f := tv t) (g := agB ks) hne b
  have O := fo_or (tv t) (agB ks) (2 ^ ks.length)
  unfold fcd foT
  rw [Int.toNat_natCast, bne_iff_ne]
  constructor
  · intro h
    rcases O with o | o | o
    · exact ⟨true, (F true).1 o⟩
    · exact ⟨false, (F false).1 o⟩
    · exact absurd o h
  · rintro ⟨b, hb⟩ h
    have := (F b).2 hb
    rw [h] at this
    cases b <;> simp [bI] at this
theorem fcd_all {m : Nat} {t : List T} {ks : List Int} (hl : ks.length = m) (hk : ks.all kOk = true) (h : uk ks = 0) : fcd m t ks = true := by
  obtain ⟨s0, q0, q1⟩ := agB_some hk
  rw [hl] at q0
  refine (fcd_iff hl hk).2 ⟨tv t s0, fun s hs ha => ?_⟩
  rw [eq_of_low hs q0 fun k hk' => ?_]
  obtain ⟨v, hv⟩ : ∃ v, ks[k]? = some v := ⟨ks[k], List.getElem?_eq_getElem (by omega)⟩
  have n1 : v ≠ -1 := fun e => uk_zero h k (by rw [hv, e])
  have a1 := (agB_iff.1 ha k v hv).resolve_left n1
  have a2 := (agB_iff.1 q1 k v hv).resolve_left n1
  exact bI_inj.1 (a1.symm.trans a2)
def okT (m : Nat) (t : List T) : List Int → PT → Prop
  | ks, .stop => fcd m t ks = true
  | ks, .ask k n y => fcd m t ks = false ∧ ks[k]? = some (-1) ∧ okT m t (ks.set k 0) n ∧ okT m t (ks.set k 1) y
/-- what a tree costs on average from what is known on -/
def tA (us : List T) : List Int → PT → Int
  | _, .stop => 0
  | ks, .ask k n y => wk us ks * cA us k + tA us (ks.set k 0) n + tA us (ks.set k 1) y
/-- the least of some sums, and the first place of it -/
def lpB (S : Nat → Int) (ks : List Int) : Nat → Int × Int
  | 0 => (-1, -1)
  | i + 1 => if ks[i]? = some (-1) then (if (lpB S ks i).1 < 0 ∨ S i < (lpB S ks i).1 then (S i, i) else lpB S ks i) else lpB S ks i
theorem lpB_spec {S : Nat → Int} {ks : List Int} (h0 : ∀ k, ks[k]? = some (-1) → 0 ≤ S k) : ∀ i : Nat,
    (lpB S ks i = (-1, -1) ∧ ∀ k, k < i → ks[k]? ≠ some (-1)) ∨ ∃ k : Nat, k < i ∧ ks[k]? = some (-1) ∧ lpB S ks i = (S k, (k : Int)) ∧ ∀ j, j < i → ks[j]? = some (-1) → S k ≤ S j ∧ (j < k → S k < S j)
  | 0 => .inl ⟨rfl, fun k h => by omega⟩
  | i + 1 => by
    simp only [lpB]
    by_cases hi : ks[i]? = some (-1)
    · rw [if_pos hi]
      have hS := h0 i hi
      rcases lpB_spec h0 i with ⟨e, hn⟩ | ⟨k, k1, k2, e, hk⟩
      · right
        rw [e, if_pos (.inl (by show (-1 : Int) < 0; omega))]
        refine ⟨i, by omega, hi, rfl, fun j hj hjk => ?_⟩
        have : j = i := by
          by_cases q : j < i
          · exact absurd hjk (hn j q)
          · omega
        subst this
        exact ⟨Int.le_refl _, fun h => by omega⟩
      · right
        rw [e]
        have hSk := h0 k k2
        by_cases hlt : S i < S k
        · rw [if_pos (.inr hlt)]
          refine ⟨i, by omega, hi, rfl, fun j hj hjk => ?_⟩
          by_cases q : j = i
          · subst q; exact ⟨Int.le_refl _, fun h => by omega⟩
          · obtain ⟨p1, p2⟩ := hk j (by omega) hjk
            exact ⟨by omega, fun _ => by omega⟩
        · rw [if_neg (by intro h; rcases h with h | h; exact absurd h (by show ¬ S k < 0; omega); exact hlt h)]
          refine ⟨k, by omega, k2, rfl, fun j hj hjk => ?_⟩
          by_cases q : j = i
          · subst q; exact ⟨by omega, fun h => by omega⟩
          · exact hk j (by omega) hjk
    · rw [if_neg hi]
      rcases lpB_spec h0 i with ⟨e, hn⟩ | ⟨k, k1, k2, e, hk⟩
      · left
        refine ⟨e, fun k hk => ?_⟩
        by_cases q : k = i
        · subst q; exact hi
        · exact hn k (by omega)
      · right
        refine ⟨k, by omega, k2, e, fun j hj hjk => ?_⟩
        by_cases q : j = i
        · subst q; exact absurd hjk hi
        · exact hk j (by omega) hjk
/-- the least average from what is known on, and the first test of a plan that reaches it -/
def bPl (us t : List T) : Nat → List Int → Int × Int
  | 0, _ => (0, -1)
  | f + 1, ks => if fcd us.length t ks = true then (0, -1) else lpB (fun k => wk us ks * cA us k + (bPl us t f (ks.set k 0)).1 + (bPl us t f (ks.set k 1)).1) ks us.length
def bS (us t : List T) (f : Nat) (ks : List Int) (k : Nat) : Int := wk us ks * cA us k + (bPl us t f (ks.set k 0)).1 + (bPl us t f (ks.set k 1)).1
/-- the tree that it reaches -/
def bT (us t : List T) : Nat → List Int → PT
  | 0, _ => .stop
  | f + 1, ks => if (bPl us t (f + 1) ks).2 = -1 then .stop else .ask (bPl us t (f + 1) ks).2.toNat (bT us t f (ks.set (bPl us t (f + 1) ks).2.toNat 0)) (bT us t f (ks.set (bPl us t (f + 1) ks).2.toNat 1))
/-- the first test of the best tree, and what it comes to -/
structure BPs (us t : List T) (f : Nat) (ks : List Int) : Prop where
  nn : 0 ≤ (bPl us t f ks).1
  stop : fcd us.length t ks = true → bPl us t f ks = (0, -1)
  go : fcd us.length t ks = false → ∃ k : Nat, ks[k]? = some (-1) ∧ (bPl us t f ks).2 = (k : Int) ∧ (bPl us t f ks).1 = bS us t (f - 1) ks k ∧ ∀ j : Nat, ks[j]? = some (-1) → (bPl us t f ks).1 ≤ bS us t (f - 1) ks j ∧ (j < k → (bPl us t f ks).1 < bS us t (f - 1) ks j)
theorem cA_nn' {us : List T} (h : us.all tOk = true) (k : Nat) : 0 ≤ cA us k := by
  have := cA_nn h k
  omega
theorem bPl_ok {us t : List T} (h : us.all tOk = true) : ∀ (f : Nat) (ks : List Int), ks.length = us.length → ks.all kOk = true → uk ks ≤ f → BPs us t f ks
  | 0, ks, hl, hk, hu => by
    have hf := fcd_all (t := t) hl hk (by omega)
    exact ⟨Int.le_refl _, fun _ => rfl, fun h => by rw [hf] at h; cases h⟩
  | f + 1, ks, hl, hk, hu => by
    have ih : ∀ k (b : Bool), ks[k]? = some (-1) → BPs us t f (ks.set k (bI b)) := fun k b h1 => by
      have := uk_set (b := bI b) (by cases b <;> simp [bI]) h1
      exact bPl_ok h f _ (by simpa using hl) (kOk_set hk k b) (by omega)
    have hS : ∀ k, ks[k]? = some (-1) → 0 ≤ bS us t f ks k := fun k h1 => by
      have a0 := (ih k false h1).nn
      have a1 := (ih k true h1).nn
      rw [bI_0] at a0
      rw [bI_1] at a1
      have w := (wk_bound (ks := ks) h).1
      have := Int.mul_nonneg (show 0 ≤ wk us ks by omega) (cA_nn' h k)
      unfold bS
      omega
    have e : bPl us t (f + 1) ks = if fcd us.length t ks = true then (0, -1) else lpB (bS us t f ks) ks us.length := rfl
    cases hf : fcd us.length t ks with
    | true =>
      rw [hf, if_pos rfl] at e
      refine ⟨by rw [e]; exact Int.le_refl _, fun _ => e, fun h => by rw [hf] at h; cases h⟩
    | false =>
      rw [hf, if_neg (by decide)] at e
      rcases lpB_spec hS us.length with ⟨_, hn⟩ | ⟨k, k1, k2, e2, hk2⟩
      · exfalso
        have hu0 := uk_none (ks := ks) fun k hk' => hn k (by rw [← hl]; exact (List.getElem?_eq_some_iff.1 hk').1) hk'
        have := fcd_all (t := t) hl hk hu0
        rw [hf] at this; cases this
      · rw [e2] at e
        refine ⟨by rw [e]; exact hS k k2, fun h => (by rw [hf] at h; cases h), fun _ => ⟨k, k2, by rw [e], by rw [e]; rfl, fun j hj => ?_⟩⟩
        rw [e]
        exact hk2 j (by rw [← hl]; exact (List.getElem?_eq_some_iff.1 hj).1) hj
/-- the best tree is one, and costs so much -/
theorem bT_ok {us t : List T} (h : us.all tOk = true) : ∀ (f : Nat) (ks : List Int), ks.length = us.length → ks.all kOk = true → uk ks ≤ f → okT us.length t ks (bT us t f ks) ∧ tA us ks (bT us t f ks) = (bPl us t f ks).1
  | 0, ks, hl, hk, hu => ⟨fcd_all hl hk (by omega), rfl⟩
  | f + 1, ks, hl, hk, hu => by
    obtain ⟨_, p2, p3⟩ := bPl_ok (t := t) h (f + 1) ks hl hk hu
    cases hf : fcd us.length t ks with
    | true =>
      have e := p2 hf
      have e1 : bT us t (f + 1) ks = .stop := by simp only [bT]; rw [e]; rfl
      rw [e1, e]
      exact ⟨hf, rfl⟩
    | false =>
      obtain ⟨k, k1, k2, k3, _⟩ := p3 hf
      have e1 : bT us t (f + 1) ks = .ask k (bT us t f (ks.set k 0)) (bT us t f (ks.set k 1)) := by
        simp only [bT]
        rw [k2, if_neg (by omega), Int.toNat_natCast]
      have q := fun (b : Bool) => bT_ok (t := t) h f (ks.set k (bI b)) (by simpa using hl) (kOk_set hk k b) (by have := uk_set (b := bI b) (by cases b <;> simp [bI]) k1; omega)
      have q0 := q false
      have q1 := q true
      rw [bI_0] at q0
      rw [bI_1] at q1
      rw [e1, k3]
      refine ⟨⟨hf, k1, q0.1, q1.1⟩, ?_⟩
      simp only [tA, bS, Nat.add_sub_cancel]
      rw [q0.2, q1.2]
/-- no tree costs less -/
theorem bPl_le {us t : List T} (h : us.all tOk = true) : ∀ (x : PT) (f : Nat) (ks : List Int), ks.length = us.length → ks.all kOk = true → uk ks ≤ f → okT us.length t ks x → (bPl us t f ks).1 ≤ tA us ks x
  | .stop, f, ks, hl, hk, hu, hx => by
    rw [(bPl_ok h f ks hl hk hu).stop hx]
    exact Int.le_refl _
  | .ask k n y, f, ks, hl, hk, hu, ⟨h1, h2, h3, h4⟩ => by
    obtain ⟨j, _, _, e, hj⟩ := (bPl_ok h f ks hl hk hu).go h1
    have up := uk_pos h2
    have q := fun (b : Bool) => uk_set (b := bI b) (by cases b <;> simp [bI]) h2
    have q0 := q false
    have q1 := q true
    rw [bI_0] at q0
    rw [bI_1] at q1
    have a0 := bPl_le h n (f - 1) (ks.set k 0) (by simpa using hl) (kOk_set hk k false) (by omega) h3
    have a1 := bPl_le h y (f - 1) (ks.set k 1) (by simpa using hl) (kOk_set hk k true) (by omega) h4
    have := (hj k h2).1
    simp only [tA]
    unfold bS at this
    omega
/-- what a tree costs in a state -/
def tC (us : List T) : PT → Nat → Int
  | .stop, _ => 0
  | .ask k n y, s => cA us k + if s.testBit k then tC us y s else tC us n s
theorem tA_sum {us t : List T} : ∀ (x : PT) (ks : List Int), ks.length = us.length → ks.all kOk = true → okT us.length t ks x → tA us ks x = sumTo (fun s => if agB ks s then wt us s * tC us x s else 0) (2 ^ us.length)
  | .stop, ks, hl, hk, hx => by
    simp only [tA, tC, Int.mul_zero]
    exact (sumTo_zero fun k _ => by split <;> rfl).symm
  | .ask k n y, ks, hl, hk, ⟨h1, h2, h3, h4⟩ => by
    have a0 := tA_sum n (ks.set k 0) (by simpa using hl) (kOk_set hk k false) h3
    have a1 := tA_sum y (ks.set k 1) (by simpa using hl) (kOk_set hk k true) h4
    have s0 := fun s => agB_put (s := s) (b := false) h2
    have s1 := fun s => agB_put (s := s) (b := true) h2
    rw [bI_0] at s0
    rw [bI_1] at s1
    have w := wa_wk hl hk
    unfold wa at w
    simp only [tA]
    rw [a0, a1, ← w, Int.mul_comm, ← sumTo_mul, ← sumTo_add, ← sumTo_add]
    refine sumTo_congr fun s _ => ?_
    have e : ag ks (s : Int) = agB ks s := rfl
    rw [s0, s1, e]
    simp only [tC]
    cases agB ks s <;> cases s.testBit k <;> simp [Int.mul_add, Int.mul_comm]
end
section
/-- from what is known on, from nothing known on -/
theorem ks_ex {ks : List Int} {k : Nat} (h : ks[k]? = some (-1)) : k < ks.length := (List.getElem?_eq_some_iff.1 h).1
/-- the weight of the choices that ask a test -/
def cW (us : List T) (k : Nat) : List Int → PT → Int
  | _, .stop => 0
  | ks, .ask j n y => (if j = k then wk us ks else 0) + cW us k (ks.set j 0) n + cW us k (ks.set j 1) y
theorem cW_none {us t : List T} {k : Nat} : ∀ (x : PT) (ks : List Int), okT us.length t ks x → ks[k]? ≠ some (-1) → cW us k ks x = 0
  | .stop, _, _, _ => rfl
  | .ask j n y, ks, ⟨h1, h2, h3, h4⟩, hk => by
    have hj : j ≠ k := fun e => hk (by rw [← e]; exact h2)
    simp only [cW]
    rw [if_neg hj, cW_none n _ h3 (by rw [List.getElem?_set_ne hj]; exact hk), cW_none y _ h4 (by rw [List.getElem?_set_ne hj]; exact hk)]
    rfl
theorem cW_bd {us t : List T} (h : us.all tOk = true) {k : Nat} : ∀ (x : PT) (ks : List Int), ks.length = us.length → okT us.length t ks x → 0 ≤ cW us k ks x ∧ cW us k ks x ≤ wk us ks
  | .stop, ks, hl, _ => by
    have w := wk_bound (ks := ks) h
    simp only [cW]
    omega
  | .ask j n y, ks, hl, ⟨h1, h2, h3, h4⟩ => by
    have a0 := cW_bd h (k := k) n (ks.set j 0) (by simpa using hl) h3
    have a1 := cW_bd h (k := k) y (ks.set j 1) (by simpa using hl) h4
    have w2 := wk_two hl h2
    have w := wk_bound (ks := ks) h
    simp only [cW]
    by_cases e : j = k
    · subst e
      have hj := ks_ex h2
      rw [if_pos rfl, cW_none n _ h3 (by rw [List.getElem?_set_self hj]; simp), cW_none y _ h4 (by rw [List.getElem?_set_self hj]; simp)]
      omega
    · rw [if_neg e]
      omega
/-- costs that are other for one test -/
theorem tA_dear {us vs : List T} {k : Nat} {d : Int} (hw : ∀ ks, wk vs ks = wk us ks) (hc : ∀ j, cA vs j = cA us j + if j = k then d else 0) : ∀ (x : PT) (ks : List Int), tA vs ks x = tA us ks x + d * cW us k ks x
  | .stop, _ => by simp [tA, cW]
  | .ask j n y, ks => by
    simp only [tA, cW]
    rw [tA_dear hw hc n, tA_dear hw hc y, hw, hc]
    by_cases e : j = k
    · rw [if_pos e, if_pos e]
      simp only [Int.mul_add]
      rw [Int.mul_comm d (wk us ks)]
      omega
    · rw [if_neg e, if_neg e]
      simp only [Int.mul_add, Int.mul_zero, Int.add_zero, Int.zero_add]
      omega
/-- the least average of all -/
def bA (us t : List T) : Int := (bPl us t us.length (non us.length)).1
def bX (us t : List T) : PT := bT us t us.length (non us.length)
theorem bX_ok {us t : List T} (h : us.all tOk = true) : okT us.length t (non us.length) (bX us t) ∧ tA us (non us.length) (bX us t) = bA us t :=
  bT_ok h _ _ (non_len _) (non_all _) (by rw [uk_non]; exact Nat.le_refl _)
theorem bA_le {us t : List T} (h : us.all tOk = true) {x : PT} (hx : okT us.length t (non us.length) x) : bA us t ≤ tA us (non us.length) x :=
  bPl_le h x _ _ (non_len _) (non_all _) (by rw [uk_non]; exact Nat.le_refl _) hx
/-- a dearer test costs no less, and ever less so -/
theorem bA_dear {us vs ws t : List T} {k : Nat} (hu : us.all tOk = true) (hv : vs.all tOk = true) (lv : vs.length = us.length)
    (wv : ∀ ks, wk vs ks = wk us ks) (cv : ∀ j, cA vs j = cA us j + if j = k then 1 else 0) :
    (bA us t ≤ bA vs t ∧ bA vs t ≤ bA us t + 6 ^ us.length) ∧
    (ws.all tOk = true → ws.length = us.length → (∀ ks, wk ws ks = wk us ks) → (∀ j, cA ws j = cA us j + if j = k then 2 else 0) → bA ws t - bA vs t ≤ bA vs t - bA us t) := by
  obtain ⟨o1, e1⟩ := bX_ok (t := t) hu
  obtain ⟨o2, e2⟩ := bX_ok (t := t) hv
  rw [lv] at o2 e2
  have l1 := bA_le hu o2
  have l2 := bA_le (us := vs) (t := t) hv (x := bX us t) (by rw [lv]; exact o1)
  rw [lv] at l2
  have d1 := tA_dear wv cv (bX us t) (non us.length)
  have d2 := tA_dear wv cv (bX vs t) (non us.length)
  have b1 := cW_bd hu (k := k) _ _ (non_len _) o1
  have b2 := cW_bd hu (k := k) _ _ (non_len _) o2
  rw [wk_non] at b1 b2
  refine ⟨⟨by omega, by omega⟩, fun hw lw ww cw => ?_⟩
  have l3 := bA_le (us := ws) (t := t) hw (x := bX vs t) (by rw [lw]; exact o2)
  rw [lw] at l3
  have d3 := tA_dear ww cw (bX vs t) (non us.length)
  omega
/-- whether a tree asks a test -/
def asks (k : Nat) : PT → Prop
  | .stop => False
  | .ask j n y => j = k ∨ asks k n ∨ asks k y
end
section
theorem tA_nn {us t : List T} (h : us.all tOk = true) : ∀ (x : PT) (ks : List Int), 0 ≤ tA us ks x
  | .stop, _ => Int.le_refl _
  | .ask k n y, ks => by
    have a0 := tA_nn (t := t) h n (ks.set k 0)
    have a1 := tA_nn (t := t) h y (ks.set k 1)
    have w := (wk_bound (ks := ks) h).1
    have := Int.mul_nonneg (show 0 ≤ wk us ks by omega) (cA_nn' h k)
    simp only [tA]
    omega
/-- the tree of an order -/
def lnT (m : Nat) (t : List T) : List Int → List Int → PT
  | [], _ => .stop
  | a :: r, ks => if fcd m t ks = true then .stop else .ask a.toNat (lnT m t r (ks.set a.toNat 0)) (lnT m t r (ks.set a.toNat 1))
theorem ks_okN {m : Nat} {ks : List Int} (h1 : 1 ≤ m ∧ m ≤ 5) (hl : ks.length = m) (hk : ks.all kOk = true) : ksOk (m : Int) ks = true := ksOk_iff.2 ⟨by omega, by omega, hk⟩
theorem lnT_ok {us t : List T} (hm : 1 ≤ us.length ∧ us.length ≤ 5) : ∀ (os ks : List Int) (so : Nat), ks.length = us.length → ks.all kOk = true → hkn us.length ks so → orS us.length so os = true → uk ks = os.length → okT us.length t ks (lnT us.length t os ks) ∧ tA us ks (lnT us.length t os ks) = wlk us t ks so os
  | [], ks, so, hl, hk, hn, ho, hu => by
    refine ⟨fcd_all hl hk hu, ?_⟩
    unfold wlk
    simp only [lnT, tA, gC, Int.mul_zero]
    exact (sumTo_zero fun k _ => by split <;> rfl).symm
  | a :: r, ks, so, hl, hk, hn, ho, hu => by
    have kk := ks_okN hm hl hk
    obtain ⟨o1, o2, o3⟩ := orS_cons.1 ho
    simp only [lnT]
    cases hf : fcd us.length t ks with
    | true =>
      rw [if_pos rfl]
      refine ⟨hf, ?_⟩
      rw [wlk_forced kk hn (by simpa [fcd] using hf)]
      rfl
    | false =>
      rw [if_neg (by decide)]
      have ha : ks[a.toNat]? = some (-1) := (hn a.toNat (by omega)).2 o2
      have q := fun (b : Bool) => lnT_ok (t := t) hm r (ks.set a.toNat (bI b)) (so ||| 2 ^ a.toNat) (by simpa using hl) (kOk_set hk _ b) (hkn_set hl (by omega) hn b) o3 (by have := uk_set (b := bI b) (by cases b <;> simp [bI]) ha; simp at hu; omega)
      have q0 := q false
      have q1 := q true
      rw [bI_0] at q0
      rw [bI_1] at q1
      refine ⟨⟨hf, ha, q0.1, q1.1⟩, ?_⟩
      have wo := wlk_open (us := us) (t := t) (r := r) kk hn (by unfold fcd at hf; simpa using hf) ha
      simp only [tA]
      rw [q0.2, q1.2, wo, Int.mul_comm]
      omega
/-- the tree of a whole order -/
theorem ordT {us t : List T} (h : tsOk us = true) {os : List Int} (ho : orOk us.length os = true) : okT us.length t (non us.length) (lnT us.length t os (non us.length)) ∧ tA us (non us.length) (lnT us.length t os (non us.length)) = avO us t os := by
  have h' := tsOk_iff.1 h
  obtain ⟨g1, g2, g3⟩ := orOk_iff.1 ho
  have := lnT_ok (t := t) (us := us) (by omega) os (non us.length) 0 (non_len _) (non_all _) (non_kn _) g3 (by rw [uk_non]; omega)
  rw [wlk_non] at this
  exact this
theorem bA_ord {us t : List T} (h : tsOk us = true) {os : List Int} (ho : orOk us.length os = true) : bA us t ≤ avO us t os := by
  obtain ⟨h1, h2⟩ := ordT (t := t) h ho
  rw [← h2]
  exact bA_le (tsOk_iff.1 h).2 h1
/-- each tree of a row costs at least what some order does -/
theorem row_tree {us : List T} (h : tsOk us = true) {row : Int} (hr : row = 0 ∨ row = 1) : ∀ (x : PT) (so : Nat), okT us.length (rowT us.length row) (told us.length (goS us.length row) so) x →
    ∃ r, orS us.length so r = true ∧ uc so us.length = r.length ∧ cC us (rowT us.length row) so r ≤ tA us (told us.length (goS us.length row) so) x
  | .stop, so, hx => by
    have h' := tsOk_iff.1 h
    have gl := goS_lt (m := us.length) row
    have P := prf_row (m := us.length) (by omega) (by omega) hr (so := so) gl
    have e : prf us.length (rowT us.length row) (goS us.length row) so = true := by
      unfold prf
      rw [Int.toNat_natCast]
      exact hx
    have hall : ∀ k, k < us.length → so.testBit k = true := fun k hk => by
      cases hb : so.testBit k with
      | true => rfl
      | false =>
        have := P.2 ⟨fun _ _ _ => rfl, k, hk, hb⟩
        rw [e] at this; cases this
    refine ⟨[], rfl, ?_, Int.le_refl _⟩
    have : ∀ n, n ≤ us.length → uc so n = 0 := by
      intro n
      induction n with
      | zero => intro _; rfl
      | succ n ih => intro hn; simp only [uc]; rw [ih (by omega), hall n (by omega)]; rfl
    exact this us.length (Nat.le_refl _)
  | .ask k n y, so, ⟨h1, h2, h3, h4⟩ => by
    have h' := tsOk_iff.1 h
    have gl := goS_lt (m := us.length) row
    have hk : k < us.length := by have := ks_ex h2; rwa [told_len] at this
    have hb : so.testBit k = false := by
      cases hb : so.testBit k with
      | false => rfl
      | true =>
        exfalso
        unfold told at h2
        rw [List.getElem?_map, List.getElem?_range hk] at h2
        simp only [Option.map_some, hb, if_true, Option.some.injEq] at h2
        cases hg : (goS us.length row).testBit k <;> rw [hg] at h2 <;> simp [bI] at h2
    have st := told_set (m := us.length) (st := goS us.length row) (so := so) hk
    have go : ∃ z : PT, okT us.length (rowT us.length row) (told us.length (goS us.length row) (so ||| 2 ^ k)) z ∧ tA us (told us.length (goS us.length row) (so ||| 2 ^ k)) z ≤ tA us ((told us.length (goS us.length row) so).set k 0) n + tA us ((told us.length (goS us.length row) so).set k 1) y ∧ (z = n ∨ z = y) := by
      have n0 := tA_nn (t := rowT us.length row) h'.2 n ((told us.length (goS us.length row) so).set k 0)
      have n1 := tA_nn (t := rowT us.length row) h'.2 y ((told us.length (goS us.length row) so).set k 1)
      cases hg : (goS us.length row).testBit k with
      | false =>
        rw [hg, bI_0] at st
        rw [← st]
        exact ⟨n, h3, by omega, .inl rfl⟩
      | true =>
        rw [hg, bI_1] at st
        rw [← st]
        exact ⟨y, h4, by omega, .inr rfl⟩
    obtain ⟨z, z1, z2, z3⟩ := go
    have IH : ∃ r, orS us.length (so ||| 2 ^ k) r = true ∧ uc (so ||| 2 ^ k) us.length = r.length ∧ cC us (rowT us.length row) (so ||| 2 ^ k) r ≤ tA us (told us.length (goS us.length row) (so ||| 2 ^ k)) z := by
      rcases z3 with rfl | rfl
      · exact row_tree h hr _ _ z1
      · exact row_tree h hr _ _ z1
    obtain ⟨r, r1, r2, r3⟩ := IH
    have ow := owT_row h hr (so := so) ⟨k, hk, hb⟩
    refine ⟨(k : Int) :: r, orS_cons.2 ⟨by omega, by simpa using hb, by simpa using r1⟩, ?_, ?_⟩
    · have := uc_or (so := so) hk hb
      simp only [List.length_cons]
      omega
    · simp only [cC, tA, Int.toNat_natCast]
      rw [ow, Int.mul_comm]
      omega
theorem bA_row {us : List T} (h : tsOk us = true) {row : Int} (hr : row = 0 ∨ row = 1) : bA us (rowT us.length row) = rA us row 1 (rO us row us.length) := by
  have h' := tsOk_iff.1 h
  have l1 := bA_ord (t := rowT us.length row) h (rO_ok h row)
  rw [row_avO h hr (rO_ok h row)] at l1
  obtain ⟨o, e⟩ := bX_ok (t := rowT us.length row) h'.2
  rw [← told_non us.length (goS us.length row)] at o e
  obtain ⟨r, r1, r2, r3⟩ := row_tree h hr _ 0 o
  rw [uc_zero] at r2
  have ok : orOk us.length r = true := orOk_iff.2 ⟨by omega, by omega, r1⟩
  have l2 := rO_least h (row := row) ok
  rw [← row_avO h hr ok, avO_cC] at l2
  omega
def opK (ks : List Int) : List Int := ks.map fun k => if k = -1 then -1 else 1 - k
theorem opK_len (ks : List Int) : (opK ks).length = ks.length := by simp [opK]
theorem opK_at {ks : List Int} {k : Nat} : (opK ks)[k]? = some (-1) ↔ ks[k]? = some (-1) ∨ ks[k]? = some 2 := by
  unfold opK
  rw [List.getElem?_map]
  cases h : ks[k]? with
  | none => simp
  | some x =>
    simp only [Option.map_some, Option.some.injEq]
    split <;> omega
theorem opK_un {ks : List Int} (hk : ks.all kOk = true) {k : Nat} : (opK ks)[k]? = some (-1) ↔ ks[k]? = some (-1) := by
  rw [opK_at]
  constructor
  · rintro (h | h)
    · exact h
    · have := List.all_eq_true.1 hk 2 (List.mem_of_getElem? h)
      simp [kOk] at this
  · exact .inl
theorem opK_set (ks : List Int) (k : Nat) (b : Bool) : opK (ks.set k (bI b)) = (opK ks).set k (bI (!b)) := by
  unfold opK
  rw [List.map_set]
  congr 1
  cases b <;> rfl
theorem opK_ok {ks : List Int} (hk : ks.all kOk = true) : (opK ks).all kOk = true := by
  rw [List.all_eq_true] at hk ⊢
  intro x hx
  obtain ⟨y, hy, rfl⟩ := List.mem_map.1 hx
  have := hk y hy
  simp [kOk] at this ⊢
  split <;> omega
theorem opK_non (m : Nat) : opK (non m) = non m := by simp [opK, non]
theorem wk_opK : ∀ (us : List T) (ks : List Int), ks.all kOk = true → wk (us.map other) (opK ks) = wk us ks
  | [], _, _ => rfl
  | t :: us, [], _ => rfl
  | t :: us, k :: ks, hk => by
    simp only [List.all_cons, Bool.and_eq_true] at hk
    have h1 : -1 ≤ k ∧ k ≤ 1 := by simpa [kOk] using hk.1
    have ih := wk_opK us ks hk.2
    show (if (if k = -1 then -1 else 1 - k) = -1 then 6 else if (if k = -1 then -1 else 1 - k) = 1 then (other t).2 else 6 - (other t).2) * wk (us.map other) (opK ks) = (if k = -1 then 6 else if k = 1 then t.2 else 6 - t.2) * wk us ks
    rw [ih]
    congr 1
    simp only [other]
    have : k = -1 ∨ k = 0 ∨ k = 1 := by omega
    rcases this with rfl | rfl | rfl
    · simp
    · simp
    · simp; omega
theorem agB_opK {m : Nat} {ks : List Int} (hl : ks.length = m) (hk : ks.all kOk = true) {s : Nat} (hs : s < 2 ^ m) : agB (opK ks) (opp m s) = agB ks s := by
  rw [Bool.eq_iff_iff, agB_iff, agB_iff]
  have bit : ∀ k, k < m → (opp m s).testBit k = !s.testBit k := fun k hk => by
    have := opp_bit (m := (m : Int)) (s := s) (a := k) (by rw [Int.toNat_natCast]; exact hs) (by rw [Int.toNat_natCast]; exact hk)
    exact this
  constructor
  · intro H k v hv
    have hkm : k < m := by rw [← hl]; exact (List.getElem?_eq_some_iff.1 hv).1
    have hv2 : (opK ks)[k]? = some (if v = -1 then -1 else 1 - v) := by unfold opK; rw [List.getElem?_map, hv]; rfl
    have hb := List.all_eq_true.1 hk v (List.mem_of_getElem? hv)
    simp [kOk] at hb
    rcases H k _ hv2 with h | h
    · split at h
      · left; assumption
      · omega
    · split at h
      · left; assumption
      · right
        rw [bit k hkm] at h
        cases hb2 : s.testBit k with
        | true => rw [hb2] at h; have h2 : 1 - v = 0 := h; show v = 1; omega
        | false => rw [hb2] at h; have h2 : 1 - v = 1 := h; show v = 0; omega
  · intro H k v hv
    have hkm : k < m := by rw [← hl, ← opK_len]; exact (List.getElem?_eq_some_iff.1 hv).1
    obtain ⟨u, hu⟩ : ∃ u, ks[k]? = some u := ⟨ks[k], List.getElem?_eq_getElem (by omega)⟩
    have hv2 : (opK ks)[k]? = some (if u = -1 then -1 else 1 - u) := by unfold opK; rw [List.getElem?_map, hu]; rfl
    rw [hv] at hv2
    injection hv2 with hv2
    subst hv2
    rcases H k u hu with h | h
    · left; rw [if_pos h]
    · right
      rw [bit k hkm, h]
      cases s.testBit k <;> simp [bI]
theorem oppN_lt {m s : Nat} (hs : s < 2 ^ m) : opp m s < 2 ^ m := by
  unfold opp
  rw [Int.toNat_natCast]
  omega
theorem oppN_opp {m s : Nat} (hs : s < 2 ^ m) : opp m (opp m s) = s := by
  unfold opp
  rw [Int.toNat_natCast]
  omega
theorem fcd_dual {m : Nat} {t : List T} (ht : tmOk m t = true) {ks : List Int} (hl : ks.length = m) (hk : ks.all kOk = true) : fcd m (t.map dT) (opK ks) = fcd m t ks := by
  have V : ∀ s, s < 2 ^ m → tv (t.map dT) (opp m s) = !tv t s := fun s hs => tv_dual ht (by rw [Int.toNat_natCast]; exact hs)
  rw [Bool.eq_iff_iff, fcd_iff (by rw [opK_len]; exact hl) (opK_ok hk), fcd_iff hl hk]
  constructor
  · rintro ⟨b, hb⟩
    refine ⟨!b, fun s hs ha => ?_⟩
    have := hb (opp m s) (oppN_lt hs) (by rw [agB_opK hl hk hs]; exact ha)
    rw [V s hs] at this
    rw [← this, Bool.not_not]
  · rintro ⟨b, hb⟩
    refine ⟨!b, fun s hs ha => ?_⟩
    have e := oppN_opp hs
    have := hb (opp m s) (oppN_lt hs) (by rw [← agB_opK hl hk (oppN_lt hs), e]; exact ha)
    rw [← e, V _ (oppN_lt hs), this]
/-- the tree for the dual term -/
def dPT : PT → PT
  | .stop => .stop
  | .ask k n y => .ask k (dPT y) (dPT n)
theorem dPT_two : ∀ x : PT, dPT (dPT x) = x
  | .stop => rfl
  | .ask k n y => by simp only [dPT]; rw [dPT_two n, dPT_two y]
theorem okT_dual {m : Nat} {t : List T} (ht : tmOk m t = true) : ∀ (x : PT) (ks : List Int), ks.length = m → ks.all kOk = true → (okT m (t.map dT) (opK ks) (dPT x) ↔ okT m t ks x)
  | .stop, ks, hl, hk => by
    simp only [dPT, okT]
    rw [fcd_dual ht hl hk]
  | .ask k n y, ks, hl, hk => by
    have c0 := okT_dual ht n (ks.set k (bI false)) (by simpa using hl) (kOk_set hk k false)
    have c1 := okT_dual ht y (ks.set k (bI true)) (by simpa using hl) (kOk_set hk k true)
    rw [opK_set] at c0 c1
    simp only [Bool.not_false, Bool.not_true, bI_0, bI_1] at c0 c1
    simp only [dPT, okT]
    rw [fcd_dual ht hl hk, opK_un hk, c0, c1]
    constructor
    · rintro ⟨a, b, c, d⟩; exact ⟨a, b, d, c⟩
    · rintro ⟨a, b, c, d⟩; exact ⟨a, b, d, c⟩
theorem tA_dual {us : List T} : ∀ (x : PT) (ks : List Int), ks.all kOk = true → tA (us.map other) (opK ks) (dPT x) = tA us ks x
  | .stop, _, _ => rfl
  | .ask k n y, ks, hk => by
    have c0 := tA_dual (us := us) n (ks.set k (bI false)) (kOk_set hk k false)
    have c1 := tA_dual (us := us) y (ks.set k (bI true)) (kOk_set hk k true)
    rw [opK_set] at c0 c1
    simp only [Bool.not_false, Bool.not_true, bI_0, bI_1] at c0 c1
    simp only [dPT, tA]
    rw [c0, c1, wk_opK us ks hk, cA_other]
    omega
theorem bA_dual {us t : List T} (h : tsOk us = true) (ht : tmOk us.length t = true) : bA (us.map other) (t.map dT) = bA us t := by
  have h' := tsOk_iff.1 h
  have ho := (tsOk_iff.1 (others_ok h)).2
  have lo : (us.map other).length = us.length := by simp
  obtain ⟨o1, e1⟩ := bX_ok (t := t) h'.2
  obtain ⟨o2, e2⟩ := bX_ok (us := us.map other) (t := t.map dT) ho
  rw [lo] at o2 e2
  have q1 := (okT_dual ht (bX us t) (non us.length) (non_len _) (non_all _)).2 o1
  have d1 := tA_dual (us := us) (bX us t) (non us.length) (non_all _)
  rw [opK_non] at q1 d1
  have l1 := bA_le (us := us.map other) (t := t.map dT) ho (x := dPT (bX us t)) (by rw [lo]; exact q1)
  rw [lo] at l1
  have q2 := (okT_dual ht (dPT (bX (us.map other) (t.map dT))) (non us.length) (non_len _) (non_all _)).1 (by rw [dPT_two, opK_non]; exact o2)
  have d2 := tA_dual (us := us) (dPT (bX (us.map other) (t.map dT))) (non us.length) (non_all _)
  rw [dPT_two, opK_non] at d2
  have l2 := bA_le h'.2 q2
  omega
end
section
/-- the tests that a tree asks in a state, one by one -/
def pth : PT → Nat → List Nat
  | .stop, _ => []
  | .ask k n y, s => k :: if s.testBit k then pth y s else pth n s
/-- .. as bits -/
def bitsN : Nat → List Nat → Nat
  | so, [] => so
  | so, k :: r => bitsN (so ||| 2 ^ k) r
theorem bitsN_lt {m : Nat} : ∀ (l : List Nat) (so : Nat), so < 2 ^ m → (∀ k ∈ l, k < m) → bitsN so l < 2 ^ m
  | [], _, h, _ => h
  | j :: r, so, h, hl => bitsN_lt r (so ||| 2 ^ j) (Nat.or_lt_two_pow h (Nat.pow_lt_pow_right (by omega) (hl j (List.mem_cons_self ..)))) fun k hk => hl k (List.mem_cons_of_mem j hk)
/-- each test is asked once, and none that is known -/
theorem pth_nodup {m : Nat} {t : List T} : ∀ (x : PT) (ks : List Int) (s : Nat), okT m t ks x → (pth x s).Nodup ∧ ∀ k ∈ pth x s, ks[k]? = some (-1)
  | .stop, _, _, _ => ⟨List.nodup_nil, fun k hk => by cases hk⟩
  | .ask k n y, ks, s, ⟨h1, h2, h3, h4⟩ => by
    have key : ∀ (b : Bool) (z : PT), ((pth z s).Nodup ∧ ∀ j ∈ pth z s, (ks.set k (bI b))[j]? = some (-1)) → (k :: pth z s).Nodup ∧ ∀ j ∈ k :: pth z s, ks[j]? = some (-1) := by
      rintro b z ⟨z1, z2⟩
      have hne : ∀ j ∈ pth z s, j ≠ k := fun j hj e => by
        have := z2 j hj
        rw [e, List.getElem?_set_self (ks_ex h2)] at this
        cases b <;> simp [bI] at this
      refine ⟨List.nodup_cons.2 ⟨fun hk => hne k hk rfl, z1⟩, fun j hj => ?_⟩
      rcases List.mem_cons.1 hj with rfl | hj
      · exact h2
      · have := z2 j hj
        rwa [List.getElem?_set_ne (Ne.symm (hne j hj))] at this
    simp only [pth]
    cases s.testBit k
    · exact key false n (pth_nodup n _ s h3)
    · exact key true y (pth_nodup y _ s h4)
/-- what it asks is a proof -/
theorem pth_prf {m : Nat} {t : List T} (hm : 1 ≤ m ∧ m ≤ 5) : ∀ (x : PT) (ks : List Int) (so s : Nat), ks.length = m → ks.all kOk = true → hkn m ks so → agB ks s = true → okT m t ks x → prf m t s (bitsN so (pth x s)) = true
  | .stop, ks, so, s, hl, hk, hn, hg, hx => by
    have := prf_kn (t := t) (ks_okN hm hl hk) (by rw [Int.toNat_natCast]; exact hn) hg
    simp only [pth, bitsN]
    rw [this]
    exact hx
  | .ask k n y, ks, so, s, hl, hk, hn, hg, ⟨h1, h2, h3, h4⟩ => by
    have hkm : k < m := by rw [← hl]; exact ks_ex h2
    have ga := fun b => agB_put (s := s) (b := b) h2
    simp only [pth]
    cases hb : s.testBit k
    · refine pth_prf hm n (ks.set k (bI false)) (so ||| 2 ^ k) s (by simpa using hl) (kOk_set hk k false) (hkn_set hl hkm hn false) ?_ h3
      rw [ga, hg, hb]; rfl
    · refine pth_prf hm y (ks.set k (bI true)) (so ||| 2 ^ k) s (by simpa using hl) (kOk_set hk k true) (hkn_set hl hkm hn true) ?_ h4
      rw [ga, hg, hb]; rfl
theorem pth_cB {us t : List T} : ∀ (x : PT) (ks : List Int) (so s : Nat), ks.length = us.length → hkn us.length ks so → okT us.length t ks x → cB us (bitsN so (pth x s)) us.length = cB us so us.length + tC us x s
  | .stop, _, _, _, _, _, _ => by simp [pth, bitsN, tC]
  | .ask k n y, ks, so, s, hl, hn, ⟨h1, h2, h3, h4⟩ => by
    have hkm : k < us.length := by rw [← hl]; exact ks_ex h2
    have o := cB_or (us := us) hkm ((hn k hkm).1 h2)
    simp only [pth, tC]
    cases s.testBit k
    · have := pth_cB n (ks.set k (bI false)) (so ||| 2 ^ k) s (by simpa using hl) (hkn_set hl hkm hn false) h3
      simp only [Bool.false_eq_true, if_false, bitsN]
      omega
    · have := pth_cB y (ks.set k (bI true)) (so ||| 2 ^ k) s (by simpa using hl) (hkn_set hl hkm hn true) h4
      simp only [if_true, bitsN]
      omega
/-- .. from the beginning -/
def ask0 (x : PT) (s : Nat) : Nat := bitsN 0 (pth x s)
theorem ask0_spec {us t : List T} (h : tsOk us = true) {x : PT} (hx : okT us.length t (non us.length) x) (s : Nat) :
    prf us.length t s (ask0 x s) = true ∧ cB us (ask0 x s) us.length = tC us x s ∧ ask0 x s < 2 ^ us.length := by
  have h' := tsOk_iff.1 h
  have nd := pth_nodup x (non us.length) s hx
  refine ⟨pth_prf (by omega) x (non us.length) 0 s (non_len _) (non_all _) (non_kn _) (agB_non _ _) hx, ?_, bitsN_lt _ _ (Nat.pow_pos (by omega)) fun k hk => ?_⟩
  · have := pth_cB x (non us.length) 0 s (non_len _) (non_kn _) hx
    rw [cB_zero] at this
    unfold ask0
    omega
  · have := ks_ex (nd.2 k hk)
    rwa [non_len] at this
theorem tC_nn {us : List T} (h : us.all tOk = true) : ∀ (x : PT) (s : Nat), 0 ≤ tC us x s
  | .stop, _ => Int.le_refl _
  | .ask k n y, s => by
    have a0 := tC_nn h n s
    have a1 := tC_nn h y s
    have := cA_nn' h k
    simp only [tC]
    split <;> omega
end
section
abbrev C3 := Int × Int × Int
/-- a tree with the places of its choices -/
inductive LT where
  | stop
  | ask (p k : Nat) (no yes : LT)
def LT.size : LT → Nat
  | .stop => 0
  | .ask _ _ n y => 1 + n.size + y.size
/-- where one may go on to from a place -/
def nxt (N : Nat) (p : Nat) (a : Int) : Prop := a = -1 ∨ ((p : Int) + 1 ≤ a ∧ a ≤ (N : Int) - 1)
instance (N p : Nat) (a : Int) : Decidable (nxt N p a) := by unfold nxt; infer_instance
/-- the row holds the tree, from a place on -/
def enc (P : List C3) : Int → LT → Prop
  | a, .stop => a = -1
  | a, .ask p k n y => a = (p : Int) ∧ ∃ no ye, P[p]? = some ((k : Int), no, ye) ∧ nxt P.length p no ∧ nxt P.length p ye ∧ enc P no n ∧ enc P ye y
/-- where a row goes on to -/
def rfs : List C3 → List Int
  | [] => []
  | (_, no, ye) :: r => (if no = -1 then [] else [no]) ++ (if ye = -1 then [] else [ye]) ++ rfs r
end
section
def PT.size : PT → Nat
  | .stop => 0
  | .ask _ n y => 1 + n.size + y.size
def rot (P : List C3) : Int := if P = [] then -1 else 0
end
section
theorem avT {us t : List T} {x : PT} (hx : okT us.length t (non us.length) x) : tA us (non us.length) x = sumTo (fun s => wt us s * tC us x s) (2 ^ us.length) := by
  rw [tA_sum x (non us.length) (non_len _) (non_all _) hx]
  refine sumTo_congr fun s _ => ?_
  rw [agB_non]
  rfl
theorem tC_le {us t : List T} (h : tsOk us = true) {x : PT} (hx : okT us.length t (non us.length) x) (s : Nat) : 0 ≤ tC us x s ∧ tC us x s ≤ cost us := by
  have h' := (tsOk_iff.1 h).2
  obtain ⟨_, h2, _⟩ := ask0_spec h hx s
  have := (cB_le h' (ask0 x s) us.length).2
  have cs := cost_sum us us.length
  rw [List.take_length] at cs
  rw [← cs] at this
  exact ⟨tC_nn h' x s, by omega⟩
theorem tA_le {us t : List T} (h : tsOk us = true) {x : PT} (hx : okT us.length t (non us.length) x) : tA us (non us.length) x ≤ 6 ^ us.length * cost us := by
  have h' := (tsOk_iff.1 h).2
  rw [avT hx, ← wt_sum us, Int.mul_comm, ← sumTo_mul]
  refine sumTo_le fun s _ => ?_
  have w := (wt_bound h' s).1
  have c := (tC_le h hx s).2
  rw [Int.mul_comm]
  exact Int.mul_le_mul_of_nonneg_right c (by omega)
end
section
attribute [-simp] DV.cells
attribute [local simp] sliceD cells_st cells_sl cells_i cells_y cells_b cells_s cells_w
theorem lend_e3 (P : List C3) : lendL (P.map e3) = P.map e3 := by rw [lendL_map, List.map_map]; rfl
theorem adopt_e3 (o : Bool) (P : List C3) : adoptL o (P.map e3) = P.map e3 := by rw [adoptL_map, List.map_map]; rfl
theorem new_e3 (P : List C3) : allNewL (P.map e3) = true := by rw [allNewL_all, List.all_map, List.all_eq_true]; intro x _; rfl
theorem al_e3 (P : List C3) : allOldL (P.map e3) = true := by rw [allOldL_all, List.all_map, List.all_eq_true]; intro x _; rfl
theorem lt_e3 (n : Nat) (P : List C3) : lendL (List.take n (P.map e3)) = List.take n (P.map e3) := by rw [← List.map_take, lend_e3]
attribute [local simp] lend_e3 adopt_e3 new_e3 al_e3 lt_e3
def C3.nx (c : C3) (b : Bool) : Int := if b then c.2.2 else c.2.1
end
section
attribute [-simp] DV.cells sliceD
attribute [local simp] cells_st cells_sl cells_i cells_y cells_b cells_s cells_w
theorem bPl_up {us t : List T} (h : us.all tOk = true) : ∀ (f : Nat) (ks : List Int), ks.length = us.length → ks.all kOk = true → uk ks ≤ f → (bPl us t f ks).1 ≤ 9 * f * wk us ks
  | 0, ks, hl, hk, hu => by simp [bPl]
  | f + 1, ks, hl, hk, hu => by
    have B := bPl_ok (t := t) h (f + 1) ks hl hk hu
    have w := (wk_bound (ts := us) (ks := ks) h).1
    cases hf : fcd us.length t ks with
    | true =>
      rw [B.stop hf]
      exact Int.mul_nonneg (Int.mul_nonneg (by omega) (by omega)) (by omega)
    | false =>
      obtain ⟨k, k1, _, k3, _⟩ := B.go hf
      rw [k3, Nat.add_sub_cancel]
      have us' := fun b : Bool => uk_set (b := bI b) (by cases b <;> simp [bI]) k1
      have i0 := bPl_up (t := t) h f (ks.set k (bI false)) (by simpa using hl) (kOk_set hk k false) (by have := us' false; omega)
      have i1 := bPl_up (t := t) h f (ks.set k (bI true)) (by simpa using hl) (kOk_set hk k true) (by have := us' true; omega)
      rw [bI_0] at i0
      rw [bI_1] at i1
      have tw := wk_two hl k1
      have cb := (cA_nn h k).2.2
      have m1 : wk us ks * cA us k ≤ wk us ks * 9 := Int.mul_le_mul_of_nonneg_left cb (by omega)
      unfold bS
      have e : 9 * ((f : Int) + 1) * wk us ks = 9 * f * wk us (ks.set k 0) + 9 * f * wk us (ks.set k 1) + wk us ks * 9 := by
        rw [← Int.mul_add, tw, Int.mul_add, Int.add_mul, Int.mul_one]
        omega
      have e' : ((f + 1 : Nat) : Int) = (f : Int) + 1 := by omega
      rw [e', e]
      omega
def stBs (us : List T) (tab : Nat) (ks : List Int) (w best first : Int) (k : Nat) (sum sd : Int) : LS :=
  ⟨[(0, .sl 0 (us.map e2)), (1, .i tab), (2, .sl 0 (ks.map .i)), (3, .i w), (10, .i best), (11, .i first), (12, .i k), (13, .i sum), (14, .i sd)], []⟩
def stBo (us : List T) (tab : Nat) (ks : List Int) (w : Int) (bf : Int × Int) (k : Nat) : LS :=
  ⟨[(0, .sl 0 (us.map e2)), (1, .i tab), (2, .sl 0 (ks.map .i)), (3, .i w), (10, .i bf.1), (11, .i bf.2), (12, .i k)], []⟩
set_option maxHeartbeats 4000000 in
theorem best_step {us : List T} {tab : Nat} {ks : List Int} {w best first : Int} {k : Nat} {sum : Int} {b : Bool} {r : Int × Int} (hl : ks.length = us.length) (hm : us.length ≤ 5) (hk : k < us.length) {c cq : Int} (hx : atI (us.map e2) k = some (.st [.i c, .i cq]))
    (hc : 1 ≤ cq ∧ cq ≤ 5) (hs : 0 ≤ sum ∧ sum ≤ 1000000) (hr : 0 ≤ r.1 ∧ r.1 ≤ 1000000) (hw : 0 ≤ w ∧ w ≤ 7776) {v : Int} (hv : w.tdiv 6 * (if b then cq else 6 - cq) = v) (vb : 0 ≤ v ∧ v ≤ 7776)
    (C : call lf n_spec_l6Best [.sl 0 (us.map e2), .i tab, .sl 0 ((ks.set k (bI b)).map .i), .i v] = some (.tup [.i r.1, .i r.2], [])) :
    ex lf F_spec_l6Best_L1 (stBs us tab ks w best first k sum (bI b)) = some (.normal, stBs us tab ks w best first k (sum + r.1) (bI b + 1)) := by
  unfold stBs
  have lb : ks.length ≤ bound := by unfold bound; omega
  have am : k < ks.length := by omega
  have am' : (k : Int) < ks.length := by omega
  have xl : (k : Int) < (us.length : Int) := by omega
  have w2 : wr (sum + r.1) = sum + r.1 := wr_id (by omega) (by omega)
  have w0 : wr (1 : Int) = 1 := wr_id (by omega) (by omega)
  have w02 : wr (2 : Int) = 2 := wr_id (by omega) (by omega)
  have td : 0 ≤ w.tdiv 6 ∧ w.tdiv 6 ≤ 7776 := by
    have := Int.tdiv_le_self (a := w) 6 hw.1
    exact ⟨Int.tdiv_nonneg hw.1 (by omega), by omega⟩
  have wX : wr (w.tdiv 6) = w.tdiv 6 := wr_id (by omega) (by omega)
  have wv : wr v = v := wr_id (by omega) (by omega)
  obtain ⟨u, atk⟩ : ∃ u : Int, atN (ks.map DV.i) k = some (.i u) := ⟨ks[k], by show (ks.map DV.i)[k]? = _; simp [am]⟩
  have kn : 0 ≤ (k : Int) := by omega
  rw [List.map_set] at C
  cases b with
  | true =>
    simp only [bI, if_true] at C hv ⊢
    have t1 : List.take ks.length ((ks.map DV.i).set k (.i 1)) = (ks.map .i).set k (.i 1) := List.take_of_length_le (by simp)
    simp [F_spec_l6Best_L1, lb, am, am', xl, hx, atk, w0, w02, w2, wX, hv, wv, t1, lend_set, C, -Int.natCast_add]
  | false =>
    simp only [bI, Bool.false_eq_true, if_false] at C hv ⊢
    have w4 : wr (6 - cq) = 6 - cq := wr_id (by omega) (by omega)
    have t1 : List.take ks.length ((ks.map DV.i).set k (.i 0)) = (ks.map .i).set k (.i 0) := List.take_of_length_le (by simp)
    simp [F_spec_l6Best_L1, lb, am, am', xl, hx, atk, w0, w02, w2, w4, wX, hv, wv, t1, lend_set, C, -Int.natCast_add]
theorem best_inner {us : List T} {tab : Nat} {ks : List Int} {w best first : Int} {k : Nat} {sum : Int} {r0 r1 : Int × Int} (hl : ks.length = us.length) (hm : us.length ≤ 5) (hk : k < us.length) {c cq : Int} (hx : atI (us.map e2) k = some (.st [.i c, .i cq]))
    (hc : 1 ≤ cq ∧ cq ≤ 5) (hs : 0 ≤ sum ∧ sum ≤ 400000) (hr0 : 0 ≤ r0.1 ∧ r0.1 ≤ 400000) (hr1 : 0 ≤ r1.1 ∧ r1.1 ≤ 400000) (hw : 0 ≤ w ∧ w ≤ 7776) {v0 v1 : Int} (hv0 : w.tdiv 6 * (6 - cq) = v0) (vb0 : 0 ≤ v0 ∧ v0 ≤ 7776) (hv1 : w.tdiv 6 * cq = v1) (vb1 : 0 ≤ v1 ∧ v1 ≤ 7776)
    (C0 : call lf n_spec_l6Best [.sl 0 (us.map e2), .i tab, .sl 0 ((ks.set k 0).map .i), .i v0] = some (.tup [.i r0.1, .i r0.2], []))
    (C1 : call lf n_spec_l6Best [.sl 0 (us.map e2), .i tab, .sl 0 ((ks.set k 1).map .i), .i v1] = some (.tup [.i r1.1, .i r1.2], [])) :
    ex lf F_spec_l6Best_W1 (stBs us tab ks w best first k sum 0) = some (.exit 2, stBs us tab ks w best first k (sum + r0.1 + r1.1) 2) := by
  have S0 := best_step (tab := tab) (best := best) (first := first) (sum := sum) (b := false) (r := r0) hl hm hk hx hc (by omega) (by omega) hw (v := v0) (by simpa using hv0) vb0 (by simpa [bI] using C0)
  have S1 := best_step (tab := tab) (best := best) (first := first) (sum := sum + r0.1) (b := true) (r := r1) hl hm hk hx hc (by omega) (by omega) hw (v := v1) (by simpa using hv1) vb1 (by simpa [bI] using C1)
  simp only [bI, Bool.false_eq_true, if_false, if_true] at S0 S1
  rw [w_spec_l6Best_1, S0]
  simp only
  rw [show (0 : Int) + 1 = 1 from rfl, w_spec_l6Best_1, S1]
  simp only
  have w02 : wr (2 : Int) = 2 := wr_id (by omega) (by omega)
  rw [show (1 : Int) + 1 = 2 from rfl, w_spec_l6Best_1]
  unfold stBs
  simp [F_spec_l6Best_L1]
set_option maxHeartbeats 4000000 in
theorem best_outer {us : List T} (hu : tsOk us = true) {tab : Nat} {ks : List Int} (hl : ks.length = us.length) {R0 R1 : Nat → Int × Int}
    (HC0 : ∀ k : Nat, ks[k]? = some (-1) → call lf n_spec_l6Best [.sl 0 (us.map e2), .i tab, .sl 0 ((ks.set k 0).map .i), .i (wk us (ks.set k 0))] = some (.tup [.i (R0 k).1, .i (R0 k).2], []))
    (HC1 : ∀ k : Nat, ks[k]? = some (-1) → call lf n_spec_l6Best [.sl 0 (us.map e2), .i tab, .sl 0 ((ks.set k 1).map .i), .i (wk us (ks.set k 1))] = some (.tup [.i (R1 k).1, .i (R1 k).2], []))
    (HB : ∀ k : Nat, ks[k]? = some (-1) → (0 ≤ (R0 k).1 ∧ (R0 k).1 ≤ 400000) ∧ (0 ≤ (R1 k).1 ∧ (R1 k).1 ≤ 400000)) (j : Nat) : ∀ k : Nat, k + j = us.length →
    ex lf F_spec_l6Best_W0 (stBo us tab ks (wk us ks) (lpB (fun k => wk us ks * cA us k + (R0 k).1 + (R1 k).1) ks k) k) = some (.exit 0, stBo us tab ks (wk us ks) (lpB (fun k => wk us ks * cA us k + (R0 k).1 + (R1 k).1) ks us.length) us.length) := by
  have hu' := tsOk_iff.1 hu
  induction j with
  | zero =>
    intro k hk
    have e : k = us.length := by omega
    subst e
    generalize lpB (fun k => wk us ks * cA us k + (R0 k).1 + (R1 k).1) ks us.length = q
    rw [w_spec_l6Best_0]
    unfold stBo
    have ul : (us.map e2).length = us.length := by simp
    generalize us.map e2 = U at *
    generalize us.length = m at *
    simp [F_spec_l6Best_L0, ul]
  | succ j ih =>
    intro k hkj
    have ih := ih (k + 1) (by omega)
    have hk : k < us.length := by omega
    have hk' : (k : Int) < us.length := by omega
    have kk : k < ks.length := by omega
    have kk' : (k : Int) < ks.length := by omega
    have w1 : wr ((k : Int) + 1) = ((k + 1 : Nat) : Int) := by rw [wr_id (by omega) (by omega)]; omega
    have ka : atI (ks.map DV.i) (k : Int) = some (.i ks[k]) := by
      simp only [atI, if_pos (Int.natCast_nonneg k)]
      show (ks.map DV.i)[(k : Int).toNat]? = _
      simp [kk]
    have ul : (us.map e2).length = us.length := by simp
    have kl2 : (ks.map DV.i).length = ks.length := by simp
    rw [w_spec_l6Best_0]
    rw [← ih]
    simp only [lpB]
    by_cases hn : ks[k]? = some (-1)
    · have hn' : ks[k] = -1 := by rw [List.getElem?_eq_getElem kk] at hn; injection hn
      rw [hn'] at ka
      rw [if_pos hn]
      obtain ⟨c, cq, c1, c2, c3⟩ := cA_at (us := us) (a := (k : Int)) (by omega) hk'
      rw [Int.toNat_natCast] at c2 c3
      have wb := wk_bound (ts := us) (ks := ks) hu'.2
      have p6' := p6 (n := us.length) (by omega)
      obtain ⟨d0, d1⟩ := wk_div hl hn
      rw [c3] at d0 d1
      have tq : 1 ≤ cq ∧ cq ≤ 5 := by
        have e : us.getD k (0, 0) = us[k] := by simp [List.getD, hk]
        have := tOk_iff.1 (List.all_eq_true.1 hu'.2 us[k] (List.getElem_mem hk))
        rw [← e, c3] at this
        exact this.2
      have wb0 := wk_bound (ts := us) (ks := ks.set k 0) hu'.2
      have wb1 := wk_bound (ts := us) (ks := ks.set k 1) hu'.2
      have cn := cA_nn hu'.2 k
      have m0 : 0 ≤ wk us ks * cA us k := Int.mul_nonneg (by omega) cn.1
      have m1 : wk us ks * cA us k ≤ 7776 * 9 := Int.mul_le_mul (by omega) cn.2.2 cn.1 (by omega)
      obtain ⟨HB0, HB1⟩ := HB k hn
      have I := best_inner (tab := tab) (ks := ks) (w := wk us ks) (best := (lpB (fun k => wk us ks * cA us k + (R0 k).1 + (R1 k).1) ks k).1) (first := (lpB (fun k => wk us ks * cA us k + (R0 k).1 + (R1 k).1) ks k).2) (k := k) (sum := wk us ks * cA us k) hl (by omega) hk c1 tq (by omega) HB0 HB1 (by omega) d0 (by omega) d1 (by omega) (HC0 k hn) (HC1 k hn)
      generalize lpB (fun k => wk us ks * cA us k + (R0 k).1 + (R1 k).1) ks k = q at *
      have wm : wr (wk us ks * c) = wk us ks * cA us k := by rw [c2]; exact wr_id (by omega) (by omega)
      have S : 0 ≤ wk us ks * cA us k + (R0 k).1 + (R1 k).1 := by omega
      generalize hs : wk us ks * cA us k + (R0 k).1 + (R1 k).1 = s at *
      generalize wk us ks * cA us k = mm at *
      unfold stBs at I
      unfold stBo
      by_cases q0 : q.1 < 0
      · rw [if_pos (.inl q0)]
        simp [F_spec_l6Best_L0, ul, kl2, hk', kk', ka, c1, wm, I, q0, w1, -Int.natCast_add]
      · by_cases q1 : s < q.1
        · rw [if_pos (.inr q1)]
          simp [F_spec_l6Best_L0, ul, kl2, hk', kk', ka, c1, wm, I, q0, q1, w1, -Int.natCast_add]
        · rw [if_neg (by rintro (h | h); exact q0 h; exact q1 h)]
          simp [F_spec_l6Best_L0, ul, kl2, hk', kk', ka, c1, wm, I, q0, q1, w1, -Int.natCast_add]
    · rw [if_neg hn]
      have hn' : (ks[k] != -1) = true := bne_iff_ne.2 fun e => hn (by rw [List.getElem?_eq_getElem kk, e])
      generalize lpB (fun k => wk us ks * cA us k + (R0 k).1 + (R1 k).1) ks k = q at *
      unfold stBo
      simp [F_spec_l6Best_L0, ul, kl2, hk', kk', ka, hn', w1, -Int.natCast_add]
set_option maxHeartbeats 4000000 in
theorem c_spec_l6Best {us : List T} (hu : tsOk us = true) (t : List T) : ∀ (f : Nat) (ks : List Int), f ≤ 5 → ks.length = us.length → ks.all kOk = true → uk ks ≤ f →
    call lf n_spec_l6Best [.sl 0 (us.map e2), .i (tabT us.length t), .sl 0 (ks.map .i), .i (wk us ks)] = some (.tup [.i (bPl us t f ks).1, .i (bPl us t f ks).2], [])
  | f, ks, hf5, hl, hk, hf => by
    have hu' := tsOk_iff.1 hu
    have F := c_spec_l3Forced (m := (us.length : Int)) (by omega) (by omega) ks (by omega) (tabT us.length t) (by
      obtain ⟨s, q1, q2⟩ := agB_some hk
      exact ⟨s, by rw [Int.toNat_natCast, ← hl]; exact q1, q2⟩)
    rw [foT_tab (by omega) (by omega)] at F
    have fe : (foT us.length t ks != -1) = fcd us.length t ks := rfl
    have ul : (us.map e2).length = us.length := by simp
    rw [call_k lf n_spec_l6Best _ (F := F_spec_l6Best) rfl rfl]
    cases hc : fcd us.length t ks with
    | true =>
      rw [(bPl_ok (t := t) hu'.2 f ks hl hk hf).stop hc]
      rw [hc] at fe
      simp [F_spec_l6Best, ul, F, fe]
    | false =>
      rw [hc] at fe
      cases f with
      | zero =>
        rw [fcd_all hl hk (by omega)] at hc
        cases hc
      | succ f =>
        have e : bPl us t (f + 1) ks = lpB (fun k => wk us ks * cA us k + (bPl us t f (ks.set k 0)).1 + (bPl us t f (ks.set k 1)).1) ks us.length := by
          simp only [bPl]
          rw [if_neg (by rw [hc]; simp)]
        have us' := fun (k : Nat) (h : ks[k]? = some (-1)) (b : Bool) => uk_set (b := bI b) (by cases b <;> simp [bI]) h
        have IH := fun (k : Nat) (h : ks[k]? = some (-1)) (b : Bool) => c_spec_l6Best hu t f (ks.set k (bI b)) (by omega) (by simpa using hl) (kOk_set hk k b) (by have := us' k h b; omega)
        have BD := fun (k : Nat) (h : ks[k]? = some (-1)) (b : Bool) => (bPl_ok (t := t) hu'.2 f (ks.set k (bI b)) (by simpa using hl) (kOk_set hk k b) (by have := us' k h b; omega)).nn
        have BU : ∀ (k : Nat) (h : ks[k]? = some (-1)) (b : Bool), (bPl us t f (ks.set k (bI b))).1 ≤ 400000 := fun k h b => by
          have b1 := bPl_up (t := t) hu'.2 f (ks.set k (bI b)) (by simpa using hl) (kOk_set hk k b) (by have := us' k h b; omega)
          have wb := wk_bound (ts := us) (ks := ks.set k (bI b)) hu'.2
          have p6' := p6 (n := us.length) (by omega)
          have : 9 * (f : Int) * wk us (ks.set k (bI b)) ≤ 45 * 7776 := Int.mul_le_mul (by omega) (by omega) (by omega) (by omega)
          omega
        have O := best_outer hu (tab := tabT us.length t) hl (R0 := fun k => bPl us t f (ks.set k 0)) (R1 := fun k => bPl us t f (ks.set k 1)) (fun k h => IH k h false) (fun k h => IH k h true) (fun k h => ⟨⟨BD k h false, BU k h false⟩, BD k h true, BU k h true⟩) us.length 0 (by omega)
        rw [← e] at O
        clear IH BD BU
        generalize bPl us t (f + 1) ks = r at *
        unfold stBo at O
        simp only [lpB, Int.natCast_zero] at O
        simp [F_spec_l6Best, ul, F, fe, O]
end
section
attribute [-simp] DV.cells sliceD
attribute [local simp] cells_st cells_sl cells_i cells_y cells_b cells_s cells_w
attribute [local simp] lend_e3 adopt_e3 new_e3 al_e3 lt_e3
def baOf (us t : List T) : Int := if tsOk us && tmOk us.length t then bA us t else -1
theorem c_spec_BestAverage (us t : List T) (ha : (us.length : Int) < 1099511627776) (hb : (t.length : Int) < 1099511627776) : call lf n_spec_BestAverage [.sl 0 (us.map e2), .sl 0 (t.map e2)] = some (.i (baOf us t), []) := by
  have C1 := c_spec_TestsOk us ha
  have C2 := c_spec_TermOk us.length t hb
  have ul : (us.map e2).length = us.length := by simp
  rw [call_k lf n_spec_BestAverage _ (F := F_spec_BestAverage) rfl rfl]
  unfold baOf
  cases h1 : tsOk us with
  | false => rw [h1] at C1; simp [F_spec_BestAverage, C1]
  | true =>
    rw [h1] at C1
    have h' := tsOk_iff.1 h1
    cases h2 : tmOk us.length t with
    | false => rw [h2] at C2; simp [F_spec_BestAverage, C1, C2]
    | true =>
      rw [h2] at C2
      have C3 := c_spec_l3Table h2
      have C4 := c_spec_l4None (m := us.length) (by omega) (by omega)
      have C5 := c_spec_l1Power (n := us.length) (by omega)
      have C6 := c_spec_l6Best h1 t us.length (non us.length) (by omega) (non_len _) (non_all _) (by rw [uk_non]; exact Nat.le_refl _)
      rw [wk_non] at C6
      rw [Int.toNat_natCast] at C4
      have nl := non_len us.length
      have e : (bPl us t us.length (non us.length)).1 = bA us t := rfl
      rw [e] at C6
      have tk : List.take us.length ((non us.length).map DV.i) = (non us.length).map .i := List.take_of_length_le (by simp [nl])
      simp [F_spec_BestAverage, C1, C2, C3, C4, C5, C6, nl, tk]
end
section
attribute [-simp] DV.cells
attribute [local simp] sliceD cells_st cells_sl cells_i cells_y cells_b cells_s cells_w
attribute [local simp] lend_e3 adopt_e3 new_e3 al_e3 lt_e3
theorem c_DrawBestAverage {bs : List Nat} (hb : ∀ y ∈ bs, y < 256) (hl : bs.length ≤ 1048576) :
    ∃ (us t : List T), us.length ≤ 5 ∧ t.length ≤ 12 ∧ call lf n_spec_DrawBestAverage [.sl 0 (bs.map .y)] = some (.tup [.fr 2 (us.map e2), .fr 2 (t.map e2)], []) := by
  obtain ⟨c1, c2⟩ := take_b hb
  have o := c_open hl
  generalize bs.take 2000 = cs at *
  obtain ⟨us, t, p, u1, t1, p1, p2, h⟩ := c_l20Case c1 c2 (p := 0) (n := 12) (by omega) (by omega) (by omega) (by omega)
  refine ⟨us, t, u1, t1, ?_⟩
  rw [call_k lf n_spec_DrawBestAverage _ (F := F_spec_DrawBestAverage) rfl rfl]
  simp [F_spec_DrawBestAverage, o, h]
end
section
def aN : List Int → Nat
  | [] => 0
  | k :: r => (if k = -1 then 0 else 1) + 2 * aN r
def kn : List Int → Nat
  | [] => 0
  | k :: r => (if k = -1 then 0 else 1) + kn r
theorem kn_uk : ∀ ks : List Int, kn ks + uk ks = ks.length
  | [] => rfl
  | k :: r => by
    have ih := kn_uk r
    simp only [kn, uk, List.length_cons]
    split <;> omega
theorem aN_lt : ∀ ks : List Int, aN ks < 2 ^ ks.length
  | [] => by decide
  | k :: r => by
    have ih := aN_lt r
    simp only [aN, List.length_cons, Nat.pow_succ]
    split <;> omega
theorem aN_non : ∀ m : Nat, aN (non m) = 0
  | 0 => rfl
  | m + 1 => by
    show (if (-1 : Int) = -1 then 0 else 1) + 2 * aN (non m) = 0
    rw [aN_non m]
    rfl
theorem aN_b0 (k : Int) (r : List Int) : (aN (k :: r)).testBit 0 = !decide (k = -1) := by
  simp only [aN, Nat.testBit_zero]
  by_cases h : k = -1
  · simp [h]
  · simp [h]
theorem aN_div (k : Int) (r : List Int) : aN (k :: r) / 2 = aN r := by
  simp only [aN]
  split <;> omega
theorem aN_bs (k : Int) (r : List Int) (i : Nat) : (aN (k :: r)).testBit (i + 1) = (aN r).testBit i := by
  rw [Nat.testBit_succ, aN_div]
theorem aN_bit : ∀ {ks : List Int} {i : Nat}, i < ks.length → ((aN ks).testBit i = !decide (ks[i]? = some (-1)))
  | [], i, h => by simp at h
  | k :: r, 0, _ => by rw [aN_b0]; simp
  | k :: r, i + 1, h => by
    rw [aN_bs, aN_bit (ks := r) (by simpa using h)]
    simp
theorem aN_set {ks : List Int} {k : Nat} {b : Int} (hb : b ≠ -1) (h : ks[k]? = some (-1)) : aN (ks.set k b) = aN ks ||| 2 ^ k := by
  apply Nat.eq_of_testBit_eq
  intro i
  have hk := ks_ex h
  rw [Nat.testBit_or, Nat.testBit_two_pow]
  by_cases hi : i < ks.length
  · rw [aN_bit (by simpa using hi), aN_bit hi]
    by_cases e : k = i
    · subst e
      rw [List.getElem?_set_self hk]
      simp [hb]
    · rw [List.getElem?_set_ne e]
      simp [e]
  · have l1 := aN_lt (ks.set k b)
    have l2 := aN_lt ks
    rw [List.length_set] at l1
    have p : 2 ^ ks.length ≤ 2 ^ i := Nat.pow_le_pow_right (by omega) (by omega)
    rw [Nat.testBit_lt_two_pow (by omega), Nat.testBit_lt_two_pow (by omega)]
    simp; omega
/-- how many ones there are, for small numbers -/
def pc (x : Nat) : Nat := x % 2 + x / 2 % 2 + x / 4 % 2 + x / 8 % 2 + x / 16 % 2
theorem pc_kn {ks : List Int} (h : ks.length ≤ 5) : pc (aN ks) = kn ks := by
  have key : ∀ k : Int, (if k = -1 then (0 : Nat) else 1) = 0 ∨ (if k = -1 then (0 : Nat) else 1) = 1 := fun k => by split <;> simp
  unfold pc
  match ks, h with
  | [], _ => rfl
  | [a], _ =>
    simp only [aN, kn]
    have hx := key a
    generalize (if a = -1 then (0 : Nat) else 1) = x at *
    rcases hx with rfl | rfl <;> rfl
  | [a, b], _ =>
    simp only [aN, kn]
    have hx := key a
    generalize (if a = -1 then (0 : Nat) else 1) = x at *
    have hy := key b
    generalize (if b = -1 then (0 : Nat) else 1) = y at *
    rcases hx with rfl | rfl <;> rcases hy with rfl | rfl <;> rfl
  | [a, b, c], _ =>
    simp only [aN, kn]
    have hx := key a
    generalize (if a = -1 then (0 : Nat) else 1) = x at *
    have hy := key b
    generalize (if b = -1 then (0 : Nat) else 1) = y at *
    have hz := key c
    generalize (if c = -1 then (0 : Nat) else 1) = z at *
    rcases hx with rfl | rfl <;> rcases hy with rfl | rfl <;> rcases hz with rfl | rfl <;> rfl
  | [a, b, c, d], _ =>
    simp only [aN, kn]
    have hx := key a
    generalize (if a = -1 then (0 : Nat) else 1) = x at *
    have hy := key b
    generalize (if b = -1 then (0 : Nat) else 1) = y at *
    have hz := key c
    generalize (if c = -1 then (0 : Nat) else 1) = z at *
    have hu := key d
    generalize (if d = -1 then (0 : Nat) else 1) = u at *
    rcases hx with rfl | rfl <;> rcases hy with rfl | rfl <;> rcases hz with rfl | rfl <;> rcases hu with rfl | rfl <;> rfl
  | [a, b, c, d, e], _ =>
    simp only [aN, kn]
    have hx := key a
    generalize (if a = -1 then (0 : Nat) else 1) = x at *
    have hy := key b
    generalize (if b = -1 then (0 : Nat) else 1) = y at *
    have hz := key c
    generalize (if c = -1 then (0 : Nat) else 1) = z at *
    have hu := key d
    generalize (if d = -1 then (0 : Nat) else 1) = u at *
    have hv := key e
    generalize (if e = -1 then (0 : Nat) else 1) = v at *
    rcases hx with rfl | rfl <;> rcases hy with rfl | rfl <;> rcases hz with rfl | rfl <;> rcases hu with rfl | rfl <;> rcases hv with rfl | rfl <;> rfl
  | _ :: _ :: _ :: _ :: _ :: _ :: _, h => simp at h
/-- what agrees, as a number -/
def lfW (ks : List Int) : BitVec 32 := agW ks 0 (4294967295#32)
theorem lfW_bit {ks : List Int} (hk : ks.all kOk = true) (hl : ks.length ≤ 5) {s : Nat} (hs : s < 32) : (lfW ks).getLsbD s = agB ks s := by
  unfold lfW
  rw [agW_bit hk (by omega) hs, ones_bit hs]
  simp
theorem lfW_non (m : Nat) (hm : m ≤ 5) : lfW (non m) = 4294967295#32 := by
  apply BitVec.eq_of_getLsbD_eq
  intro s hs
  rw [lfW_bit (non_all m) (by rw [non_len]; exact hm) hs, agB_non, ones_bit hs]
def syW (k : Nat) (b : Bool) : BitVec 32 := if b then yesW k else ~~~ yesW k
theorem lfW_set {ks : List Int} {k : Nat} (b : Bool) (hk : ks.all kOk = true) (hl : ks.length ≤ 5) (h : ks[k]? = some (-1)) : lfW (ks.set k (bI b)) = lfW ks &&& syW k b := by
  have hk5 := ks_ex h
  apply BitVec.eq_of_getLsbD_eq
  intro s hs
  have y := yes_bit ⟨k, by omega⟩ ⟨s, hs⟩
  simp only at y
  rw [lfW_bit (kOk_set hk k b) (by simpa using hl) hs, agB_put h, BitVec.getLsbD_and, lfW_bit hk hl hs]
  unfold syW
  cases b with
  | true => rw [if_pos rfl, y]; cases agB ks s <;> cases s.testBit k <;> rfl
  | false =>
    rw [if_neg (by simp), BitVec.getLsbD_not, y]
    cases agB ks s <;> cases s.testBit k <;> simp [hs]
theorem vaW_fcd {m : Nat} {t : List T} {ks : List Int} (h1 : tmOk m t = true) (hl : ks.length = m) (hk : ks.all kOk = true) : vaW (tsW t) (lfW ks) = foT m t ks := by
  obtain ⟨h3, _, _⟩ := tmOk_iff.1 h1
  exact vaW_foT h1 (ksOk_iff.2 ⟨h3, by omega, hk⟩)
end
section
abbrev Pts := List (Option (List Int))
/-- one goes on to where it is noted -/
def go3 (m : Nat) (t : List T) (N : Nat) (pts : Pts) (p : Int) (a : Int) (ks : List Int) : Prop :=
  (a = -1 ∧ fcd m t ks = true) ∨ (p + 1 ≤ a ∧ a ≤ (N : Int) - 1 ∧ pts[a.toNat]? = some (some ks))
structure Inv (m : Nat) (t : List T) (P : List C3) (p : Nat) (pts : Pts) : Prop where
  len : pts.length = P.length
  nd : (rfs (P.take p)).Nodup
  rng : ∀ a ∈ rfs (P.take p), 1 ≤ a ∧ a < P.length
  iff_ : ∀ a : Nat, a < P.length → (pts[a]? ≠ some none ↔ (a = 0 ∨ (a : Int) ∈ rfs (P.take p)))
  ok : ∀ (a : Nat) (ks : List Int), pts[a]? = some (some ks) → ks.length = m ∧ ks.all kOk = true ∧ fcd m t ks = false
  loc : ∀ q : Nat, q < p → ∃ (ks : List Int) (k no ye : Int), P[q]? = some (k, no, ye) ∧ pts[q]? = some (some ks) ∧ (0 ≤ k ∧ k < m) ∧ ks[k.toNat]? = some (-1) ∧ go3 m t P.length pts q no (ks.set k.toNat 0) ∧ go3 m t P.length pts q ye (ks.set k.toNat 1)
end
section
attribute [-simp] DV.cells
attribute [local simp] sliceD cells_st cells_sl cells_i cells_y cells_b cells_s cells_w
attribute [local simp] lend_e3 adopt_e3 new_e3 al_e3 lt_e3
def pv (m a : Int) (w v : BitVec 32) : DV := .st [.i m, .i a, .w w, .w v]
/-- the point at which so much is known -/
def pD (m : Nat) (t : List T) (ks : List Int) : DV := pv m (aN ks) (lfW ks) (tsW t)
/-- 64 bits: how many are ones -/
theorem c_OnesCount64 {n : Nat} (h : n < 32) : call lf n_math_bits_OnesCount64 [.q n] = some (.i (pc n), []) := by
  rw [call_k lf n_math_bits_OnesCount64 _ (F := F_math_bits_OnesCount64) rfl rfl]
  have c : n = 0 ∨ n = 1 ∨ n = 2 ∨ n = 3 ∨ n = 4 ∨ n = 5 ∨ n = 6 ∨ n = 7 ∨ n = 8 ∨ n = 9 ∨ n = 10 ∨ n = 11 ∨ n = 12 ∨ n = 13 ∨ n = 14 ∨ n = 15 ∨ n = 16 ∨ n = 17 ∨ n = 18 ∨ n = 19 ∨ n = 20 ∨ n = 21 ∨ n = 22 ∨ n = 23 ∨ n = 24 ∨ n = 25 ∨ n = 26 ∨ n = 27 ∨ n = 28 ∨ n = 29 ∨ n = 30 ∨ n = 31 := by omega
  rcases c with rfl | rfl | rfl | rfl | rfl | rfl | rfl | rfl | rfl | rfl | rfl | rfl | rfl | rfl | rfl | rfl | rfl | rfl | rfl | rfl | rfl | rfl | rfl | rfl | rfl | rfl | rfl | rfl | rfl | rfl | rfl | rfl <;>
    simp [F_math_bits_OnesCount64, pc, andI, wr, Go.IntKind.wrap, Go.IntKind.signed, Go.IntKind.bits]
theorem c_OnesCount {n : Nat} (h : n < 32) : call lf n_math_bits_OnesCount [.q n] = some (.i (pc n), []) := by
  have C := c_OnesCount64 h
  rw [call_k lf n_math_bits_OnesCount _ (F := F_math_bits_OnesCount) rfl rfl]
  simp [F_math_bits_OnesCount, C]
theorem c_impl_sizeOf {n : Nat} (h : n < 32) : call lf n_impl_sizeOf [.i n] = some (.i (pc n), []) := by
  have C := c_OnesCount h
  have e : ((n : Int) % 18446744073709551616).toNat = n := by omega
  rw [call_k lf n_impl_sizeOf _ (F := F_impl_sizeOf) rfl rfl]
  simp [F_impl_sizeOf, C, e]
theorem c_howMany {m : Nat} {t : List T} {ks : List Int} (hl : ks.length ≤ 5) : call lf n_impl_point_howManyAsked [pD m t ks] = some (.i (kn ks), []) := by
  have l := aN_lt ks
  have p : 2 ^ ks.length ≤ 2 ^ 5 := Nat.pow_le_pow_right (by omega) hl
  have C := c_impl_sizeOf (n := aN ks) (by omega)
  rw [pc_kn hl] at C
  unfold pD pv
  rw [call_k lf n_impl_point_howManyAsked _ (F := F_impl_point_howManyAsked) rfl rfl]
  generalize aN ks = a at *
  simp [F_impl_point_howManyAsked, C]
theorem c_isForced {m : Nat} {t : List T} {ks : List Int} (h1 : tmOk m t = true) (hl : ks.length = m) (hk : ks.all kOk = true) : call lf n_impl_point_isForced [pD m t ks] = some (.b (fcd m t ks), []) := by
  have C := c_impl_valueAmong (tsW t) (lfW ks)
  rw [vaW_fcd h1 hl hk] at C
  unfold pD pv
  rw [call_k lf n_impl_point_isForced _ (F := F_impl_point_isForced) rfl rfl]
  unfold fcd
  simp [F_impl_point_isForced, C]
/-- may it be asked? -/
def caK (m : Nat) (ks : List Int) (a : Int) : Bool := decide (0 ≤ a ∧ a < m) && decide (ks[a.toNat]? = some (-1))
theorem c_canAsk {m : Nat} {t : List T} {ks : List Int} (hm : m ≤ 5) (hl : ks.length = m) (a : Int) : call lf n_impl_point_canAsk [pD m t ks, .i a] = some (.b (caK m ks a), []) := by
  have W := c_impl_isWithin a 0 ((m : Int) - 1)
  have w1 : wr ((m : Int) - 1) = (m : Int) - 1 := wr_id (by omega) (by omega)
  unfold pD pv
  rw [call_k lf n_impl_point_canAsk _ (F := F_impl_point_canAsk) rfl rfl]
  unfold caK
  by_cases h : 0 ≤ a ∧ a < m
  · obtain ⟨k, rfl⟩ := Int.eq_ofNat_of_zero_le h.1
    have e : decide (0 ≤ (k : Int) ∧ (k : Int) ≤ (m : Int) - 1) = true := decide_eq_true ⟨h.1, by omega⟩
    have H := c_impl_hasTest (aN ks) k (by omega)
    have hb := aN_bit (ks := ks) (i := k) (by omega)
    rw [hb] at H
    rw [e] at W
    rw [decide_eq_true h, Int.toNat_natCast]
    generalize aN ks = x at *
    generalize lfW ks = y at *
    simp [F_impl_point_canAsk, w1, W, H]
  · have e : decide (0 ≤ a ∧ a ≤ (m : Int) - 1) = false := decide_eq_false (by omega)
    rw [e] at W
    rw [decide_eq_false h]
    simp [F_impl_point_canAsk, w1, W]
theorem c_answered {m : Nat} {t : List T} {ks : List Int} {k : Nat} (b : Bool) (hl : ks.length ≤ 5) (hk : ks.all kOk = true) (h : ks[k]? = some (-1)) : call lf n_impl_point_answered [pD m t ks, .i k, .i (bI b)] = some (pD m t (ks.set k (bI b)), []) := by
  have hlt := ks_ex h
  have C := c_impl_statesSaying (k := k) (by omega) (bI b)
  have e1 : syI k (bI b) = syW k b := by cases b <;> rfl
  rw [e1] at C
  have sh := shl1 (k := (k : Int)) (by omega) (by omega)
  have nk : ¬ (k : Int) < 0 := by omega
  have l := aN_lt ks
  have p : 2 ^ ks.length ≤ 2 ^ 5 := Nat.pow_le_pow_right (by omega) hl
  have p2 : 2 ^ k ≤ 2 ^ 5 := Nat.pow_le_pow_right (by omega) (by omega)
  have o := orI_nat (a := aN ks) (b := 2 ^ k) (by omega) (by omega)
  rw [← aN_set (b := bI b) (by cases b <;> simp [bI]) h] at o
  have e2 := lfW_set b hk hl h
  unfold pD pv
  rw [call_k lf n_impl_point_answered _ (F := F_impl_point_answered) rfl rfl]
  rw [e2]
  have o' : orI (aN ks) (2 ^ k) = aN (ks.set k (bI b)) := by
    have : ((2 ^ k : Nat) : Int) = 2 ^ k := by simp
    rw [← this]; exact o
  rw [Int.toNat_natCast] at sh
  generalize aN (ks.set k (bI b)) = x at *
  generalize aN ks = y at *
  generalize lfW ks = z at *
  generalize (2 : Int) ^ k = w at *
  simp [F_impl_point_answered, C, sh, nk, o']
theorem c_startOf {m : Nat} {t : List T} (hm : m ≤ 5) (h : tmOk m t = true) : call lf n_impl_startOf [.i m, .sl 0 (t.map e2)] = some (pD m t (non m), []) := by
  have C := c_impl_trueStates h
  unfold pD pv
  rw [aN_non, lfW_non m hm]
  rw [call_k lf n_impl_startOf _ (F := F_impl_startOf) rfl rfl]
  simp [F_impl_startOf, C]
end
section
attribute [-simp] DV.cells
attribute [local simp] sliceD cells_st cells_sl cells_i cells_y cells_b cells_s cells_w
attribute [local simp] lend_e3 adopt_e3 new_e3 al_e3 lt_e3
def e4 (m : Nat) (t : List T) : Option (List Int) → DV
  | some ks => pD m t ks
  | none => pv 0 0 (0#32) (0#32)
end
section
attribute [-simp] DV.cells
attribute [local simp] sliceD cells_st cells_sl cells_i cells_y cells_b cells_s cells_w
attribute [local simp] lend_e3 adopt_e3 new_e3 al_e3 lt_e3
structure Fin (m : Nat) (t : List T) (P : List C3) (L : LT) (pts : Pts) : Prop where
  inv : Inv m t P P.length pts
  start : go3 m t P.length pts (-1) (rot P) (non m)
end
section
def lsB (S : Nat → Int) (ks : List Int) : Nat → Int × Int
  | 0 => (-1, 0)
  | i + 1 => if ks[i]? = some (-1) then (if (lsB S ks i).1 = -1 ∨ S i < (lsB S ks i).2 then ((i : Int), S i) else lsB S ks i) else lsB S ks i
def lsF (m : Nat) (t : List T) (pr : List Int → Nat → Int → Int → Int) : Nat → List Int → Int × Int
  | 0, _ => (-1, 0)
  | f + 1, ks => if fcd m t ks = true then (-1, 0) else lsB (fun k => pr ks k (lsF m t pr f (ks.set k 0)).2 (lsF m t pr f (ks.set k 1)).2) ks m
theorem lsB_lp {S S' : Nat → Int} {ks : List Int} {c : Int} (hc : 1 ≤ c) (h : ∀ k, ks[k]? = some (-1) → 0 ≤ S k ∧ S' k = c * S k) : ∀ i : Nat,
    (lsB S ks i = (-1, 0) ∧ lpB S' ks i = (-1, -1)) ∨ ∃ k : Nat, k < i ∧ ks[k]? = some (-1) ∧ lsB S ks i = ((k : Int), S k) ∧ lpB S' ks i = (S' k, (k : Int))
  | 0 => .inl ⟨rfl, rfl⟩
  | i + 1 => by
    simp only [lsB, lpB]
    by_cases hi : ks[i]? = some (-1)
    · rw [if_pos hi, if_pos hi]
      right
      rcases lsB_lp hc h i with ⟨e1, e2⟩ | ⟨k, k1, k2, e1, e2⟩
      · rw [e1, e2, if_pos (.inl rfl), if_pos (.inl (by show (-1 : Int) < 0; omega))]
        exact ⟨i, by omega, hi, rfl, rfl⟩
      · rw [e1, e2]
        obtain ⟨a0, a1⟩ := h i hi
        obtain ⟨b0, b1⟩ := h k k2
        have bn : 0 ≤ S' k := by rw [b1]; exact Int.mul_nonneg (by omega) b0
        have q : S' i < S' k ↔ S i < S k := by
          rw [a1, b1]
          constructor
          · intro hx
            exact Int.lt_of_mul_lt_mul_left hx (by omega)
          · intro hx
            exact Int.mul_lt_mul_of_pos_left hx (by omega)
        by_cases hx : S i < S k
        · rw [if_pos (.inr hx), if_pos (.inr (q.2 hx))]
          exact ⟨i, by omega, hi, rfl, rfl⟩
        · rw [if_neg (by rintro (h | h); exact absurd h (by show ¬ (k : Int) = -1; omega); exact hx h), if_neg (by rintro (h | h); exact absurd h (by show ¬ S' k < 0; omega); exact hx (q.1 h))]
          exact ⟨k, by omega, k2, rfl, rfl⟩
    · rw [if_neg hi, if_neg hi]
      rcases lsB_lp hc h i with e | ⟨k, k1, k2, e1, e2⟩
      · exact .inl e
      · exact .inr ⟨k, by omega, k2, e1, e2⟩
/-- the weight of what is known -/
def kp : List T → List Int → Int
  | t :: r, k :: ks => (if k = -1 then 1 else if k = 1 then t.2 else 6 - t.2) * kp r ks
  | _, _ => 1
theorem kp_wk : ∀ {us : List T} {ks : List Int}, ks.length = us.length → wk us ks = kp us ks * 6 ^ uk ks
  | [], [], _ => rfl
  | [], _ :: _, h => by simp at h
  | _ :: _, [], h => by simp at h
  | t :: us, k :: ks, h => by
    have ih := kp_wk (us := us) (ks := ks) (by simpa using h)
    show (if k = -1 then 6 else if k = 1 then t.2 else 6 - t.2) * wk us ks = (if k = -1 then 1 else if k = 1 then t.2 else 6 - t.2) * kp us ks * 6 ^ uk (k :: ks)
    rw [ih]
    by_cases e : k = -1
    · have : uk (k :: ks) = uk ks + 1 := by simp only [uk]; rw [if_pos e]; omega
      rw [if_pos e, if_pos e, this, Int.pow_succ, Int.one_mul, Int.mul_comm 6, Int.mul_assoc]
    · have : uk (k :: ks) = uk ks := by simp only [uk]; rw [if_neg e]; omega
      rw [if_neg e, if_neg e, this, Int.mul_assoc]
theorem kp_pos : ∀ {us : List T} {ks : List Int}, us.all tOk = true → 1 ≤ kp us ks
  | [], ks, _ => by simp [kp]
  | t :: us, [], _ => by simp [kp]
  | t :: us, k :: ks, h => by
    simp only [List.all_cons, Bool.and_eq_true] at h
    have ih := kp_pos (us := us) (ks := ks) h.2
    have ht := (tOk_iff.1 h.1).2
    have c : 1 ≤ (if k = -1 then 1 else if k = 1 then t.2 else 6 - t.2) := by
      split
      · omega
      · split <;> omega
    have := Int.mul_le_mul c ih (by omega) (by omega)
    simpa [kp] using this
theorem kp_put : ∀ {us : List T} {ks : List Int} {k : Nat}, ks.length = us.length → ks[k]? = some (-1) →
    kp us (ks.set k 0) = kp us ks * (6 - (us.getD k (0, 0)).2) ∧ kp us (ks.set k 1) = kp us ks * (us.getD k (0, 0)).2
  | _, [], k, _, h => by simp at h
  | [], x :: r, k, hl, h => by simp at hl
  | t :: us, x :: r, 0, hl, h => by
    simp only [List.getElem?_cons_zero, Option.some.injEq] at h
    subst h
    have e : kp (t :: us) (-1 :: r) = kp us r := by simp [kp]
    rw [e]
    refine ⟨?_, ?_⟩
    · show (6 - t.2) * kp us r = _
      rw [Int.mul_comm]; rfl
    · show t.2 * kp us r = _
      rw [Int.mul_comm]; rfl
  | t :: us, x :: r, k + 1, hl, h => by
    simp only [List.getElem?_cons_succ] at h
    obtain ⟨h2, h3⟩ := kp_put (us := us) (by simpa using hl) h
    have e : ∀ ks : List Int, kp (t :: us) (x :: ks) = (if x = -1 then 1 else if x = 1 then t.2 else 6 - t.2) * kp us ks := fun _ => rfl
    generalize hc : (if x = -1 then 1 else if x = 1 then t.2 else 6 - t.2) = c at e
    have g : (t :: us).getD (k + 1) (0, 0) = us.getD k (0, 0) := by simp [List.getD]
    rw [g]
    refine ⟨?_, ?_⟩
    · rw [List.set_cons_succ, e, e, h2, Int.mul_assoc]
    · rw [List.set_cons_succ, e, e, h3, Int.mul_assoc]
theorem kp_non : ∀ us : List T, kp us (non us.length) = 1
  | [] => rfl
  | t :: us => by
    show (if (-1 : Int) = -1 then 1 else _) * kp us (non us.length) = 1
    rw [if_pos rfl, kp_non us]
    rfl
/-- what asking costs on average, in parts -/
def avQ (us : List T) (ks : List Int) (k : Nat) (no yes : Int) : Int := cA us k * 6 ^ uk ks + (6 - (us.getD k (0, 0)).2) * no + (us.getD k (0, 0)).2 * yes
theorem lsF_bPl {us t : List T} (h : us.all tOk = true) : ∀ (f : Nat) (ks : List Int), ks.length = us.length → ks.all kOk = true → uk ks ≤ f →
    0 ≤ (lsF us.length t (avQ us) f ks).2 ∧ kp us ks * (lsF us.length t (avQ us) f ks).2 = (bPl us t f ks).1 ∧ (lsF us.length t (avQ us) f ks).1 = (bPl us t f ks).2
  | 0, ks, hl, hk, hu => by
    simp only [lsF, bPl]
    exact ⟨Int.le_refl _, by simp, by simp⟩
  | f + 1, ks, hl, hk, hu => by
    simp only [lsF, bPl]
    cases hc : fcd us.length t ks with
    | true => rw [if_pos rfl, if_pos rfl]; exact ⟨Int.le_refl _, by simp, rfl⟩
    | false =>
      rw [if_neg (by simp), if_neg (by simp)]
      have key : ∀ k, ks[k]? = some (-1) → 0 ≤ avQ us ks k (lsF us.length t (avQ us) f (ks.set k 0)).2 (lsF us.length t (avQ us) f (ks.set k 1)).2 ∧
          wk us ks * cA us k + (bPl us t f (ks.set k 0)).1 + (bPl us t f (ks.set k 1)).1 = kp us ks * avQ us ks k (lsF us.length t (avQ us) f (ks.set k 0)).2 (lsF us.length t (avQ us) f (ks.set k 1)).2 := fun k hkk => by
        have u := fun (b : Bool) => uk_set (b := bI b) (by cases b <;> simp [bI]) hkk
        have u0 := u false
        have u1 := u true
        rw [bI_0] at u0
        rw [bI_1] at u1
        obtain ⟨a1, a2, _⟩ := lsF_bPl h (t := t) f (ks.set k 0) (by simpa using hl) (kOk_set hk k false) (by omega)
        obtain ⟨b1, b2, _⟩ := lsF_bPl h (t := t) f (ks.set k 1) (by simpa using hl) (kOk_set hk k true) (by omega)
        obtain ⟨p0, p1⟩ := kp_put hl hkk
        rw [← a2, ← b2, p0, p1, kp_wk hl]
        have kl := ks_ex hkk
        have tq : 1 ≤ (us.getD k (0, 0)).2 ∧ (us.getD k (0, 0)).2 ≤ 5 := by
          have hlt : k < us.length := by omega
          have e : us.getD k (0, 0) = us[k] := by simp [List.getD, hlt]
          have := tOk_iff.1 (List.all_eq_true.1 h us[k] (List.getElem_mem hlt))
          rw [← e] at this
          exact this.2
        have c0 := cA_nn' h k
        have pp : (0 : Int) ≤ 6 ^ uk ks := Int.le_of_lt (Int.pow_pos (by omega))
        generalize (lsF us.length t (avQ us) f (ks.set k 0)).2 = x at *
        generalize (lsF us.length t (avQ us) f (ks.set k 1)).2 = y at *
        unfold avQ
        generalize (us.getD k (0, 0)).2 = q at *
        generalize cA us k = c at *
        generalize (6 : Int) ^ uk ks = w at *
        generalize kp us ks = K at *
        refine ⟨?_, ?_⟩
        · have m1 := Int.mul_nonneg c0 pp
          have m2 := Int.mul_nonneg (show (0 : Int) ≤ 6 - q by omega) a1
          have m3 := Int.mul_nonneg (show (0 : Int) ≤ q by omega) b1
          omega
        · rw [Int.mul_add, Int.mul_add, Int.mul_assoc K (6 - q) x, Int.mul_assoc K q y, Int.mul_assoc K w c, Int.mul_comm w c]
      rcases lsB_lp (kp_pos (ks := ks) h) key us.length with ⟨e1, e2⟩ | ⟨k, k1, k2, e1, e2⟩
      · exfalso
        have up : 0 < uk ks := by
          apply Nat.pos_of_ne_zero
          intro e
          rw [fcd_all hl hk e] at hc
          cases hc
        have B := bPl_ok (t := t) h (f + 1) ks hl hk hu
        obtain ⟨k, k1, k2, _⟩ := B.go hc
        simp only [bPl] at k2
        rw [if_neg (by rw [hc]; simp), e2] at k2
        simp only at k2
        omega
      · rw [e1, e2]
        exact ⟨(key k k2).1, (key k k2).2.symm, rfl⟩
theorem lsF_up {us t : List T} (h : us.all tOk = true) (hm : us.length ≤ 5) {f : Nat} {ks : List Int} (hl : ks.length = us.length) (hk : ks.all kOk = true) (hu : uk ks ≤ f) (hf : f ≤ 5) : (lsF us.length t (avQ us) f ks).2 ≤ 349920 := by
  obtain ⟨a1, a2, _⟩ := lsF_bPl h (t := t) f ks hl hk hu
  have b := bPl_up h (t := t) f ks hl hk hu
  have kpp := kp_pos (ks := ks) h
  rw [← a2, kp_wk hl] at b
  have ul := uk_le ks
  have p := p6 (n := uk ks) (by omega)
  have : (lsF us.length t (avQ us) f ks).2 ≤ 9 * f * 6 ^ uk ks := by
    refine Int.le_of_mul_le_mul_left (a := kp us ks) ?_ (by omega)
    rw [show kp us ks * (9 * (f : Int) * 6 ^ uk ks) = 9 * f * (kp us ks * 6 ^ uk ks) by rw [Int.mul_left_comm]]
    exact b
  have q : 9 * (f : Int) * 6 ^ uk ks ≤ 45 * 7776 := Int.mul_le_mul (by omega) p.2 (by omega) (by omega)
  omega
end
section
attribute [-simp] DV.cells
attribute [local simp] sliceD cells_st cells_sl cells_i cells_y cells_b cells_s cells_w
theorem c_impl_rowOk (row : Int) : call lf n_impl_rowOk [.i row] = some (.b (rwOk row), []) := by
  rw [call_k lf n_impl_rowOk _ (F := F_impl_rowOk) rfl rfl]
  have e : rwOk row = (row == 0 || row == 1) := by
    unfold rwOk
    by_cases h0 : row = 0
    · subst h0; rfl
    · by_cases h1 : row = 1
      · subst h1; rfl
      · have n0 : (row == 0) = false := beq_eq_false_iff_ne.2 h0
        have n1 : (row == 1) = false := beq_eq_false_iff_ne.2 h1
        rw [n0, n1]
        exact decide_eq_false (by omega)
  rw [e]
  cases h0 : (row == 0) with
  | true => simp [F_impl_rowOk, h0]
  | false => simp [F_impl_rowOk, h0]
theorem c_impl_endChance (c q row : Int) (hq : 1 ≤ q ∧ q ≤ 5) : call lf n_impl_endChance [.st [.i c, .i q], .i row] = some (.i (if row = 0 then 6 - q else q), []) := by
  have w1 : wr (6 - q) = 6 - q := wr_id (by omega) (by omega)
  rw [call_k lf n_impl_endChance _ (F := F_impl_endChance) rfl rfl]
  by_cases h : row = 0
  · simp [F_impl_endChance, h, w1]
  · have h' : (row == 0) = false := by simp [h]
    simp [F_impl_endChance, h, h']
theorem c_impl_wholeOf {n : Nat} (hn : n ≤ 5) : call lf n_impl_wholeOf [.i n] = some (.i (6 ^ n), []) := by
  rw [call_k lf n_impl_wholeOf _ (F := F_impl_wholeOf) rfl rfl]
  have L := loop_count (lf := lf) (L := F_impl_wholeOf_L0) n (fun i => ⟨[(3, .i (6 ^ i)), (4, .i n), (5, .i i)], []⟩) (x := .exit 0) (R := ⟨[(3, .i (6 ^ n)), (4, .i n), (5, .i n)], []⟩) (fun i hi => by
    have p := p6 (n := i) (by omega)
    have w1 : wr ((i : Int) + 1) = i + 1 := wr_id (by omega) (by omega)
    have w2 : wr ((6 : Int) ^ i * 6) = 6 ^ i * 6 := wr_id (by omega) (by omega)
    simp [F_impl_wholeOf_L0, hi, w1, w2, Int.pow_succ]) (by simp [F_impl_wholeOf_L0]) (by simp)
  have L' : ex lf F_impl_wholeOf_W0 ⟨[(3, .i 1), (4, .i n), (5, .i 0)], []⟩ = some (.exit 0, ⟨[(3, .i (6 ^ n)), (4, .i n), (5, .i n)], []⟩) := L
  simp [F_impl_wholeOf, L']
def stRi (m row : Int) (L : List T) (i : Nat) : LS := ⟨[(0, .i m), (5, .oad 2576 1 0 0), (6, .own 10768 L.length 0 L.length), (7, .i i)], [(2576, [.st [.i (2 + row), .i 0]]), (10768, L.map e2)]⟩
set_option maxHeartbeats 4000000 in
theorem c_impl_RowTerm (m row : Int) : call lf n_impl_RowTerm [.i m, .i row] = some (.fr 2 ((rwL m row).map e2), []) := by
  rw [call_k lf n_impl_RowTerm _ (F := F_impl_RowTerm) rfl rfl]
  unfold rwL
  by_cases h : (nOk m && rwOk row) = true
  · rw [if_pos h]
    rw [Bool.and_eq_true] at h
    have hm : 1 ≤ m ∧ m ≤ 5 := by simpa [nOk] using h.1
    have hr := rwOk_iff.1 h.2
    obtain ⟨n, rfl⟩ : ∃ n : Nat, m = (n + 1 : Nat) := ⟨m.toNat - 1, by omega⟩
    rw [Int.toNat_natCast]
    have L := loop_count (lf := lf) (L := F_impl_RowTerm_L0) n (fun i => stRi (n + 1 : Nat) row (rowT (i + 1) row) (i + 1)) (x := .exit 0) (R := stRi (n + 1 : Nat) row (rowT (n + 1) row) (n + 1)) (fun i hi => by
      have w1 : wr (((i + 1 : Nat) : Int) + 1) = ((i + 1 + 1 : Nat) : Int) := by rw [wr_id (by omega) (by omega)]; omega
      have hi' : ((i + 1 : Nat) : Int) < ((n + 1 : Nat) : Int) := by omega
      have hi2 : i + 1 < n + 1 := by omega
      have len := rowT_len i row
      have sc := rowT_succ (i + 1) row
      rw [if_neg (by omega)] at sc
      have lb1 : 2 * i + 1 + 2 ≤ bound := by unfold bound; omega
      unfold stRi
      rw [sc]
      have tk0 : List.take (2 * i + 1) ((rowT (i + 1) row).map e2) = (rowT (i + 1) row).map e2 := List.take_of_length_le (by simp [len])
      generalize rowT (i + 1) row = L at *
      simp [F_impl_RowTerm_L0, hi, hi', hi2, w1, lb1, len, tk0, e2, -Int.natCast_add]) (by simp [stRi, F_impl_RowTerm_L0]) (by simp)
    have L' : ex lf F_impl_RowTerm_W0 ⟨[(0, .i (n + 1 : Nat)), (5, .oad 2576 1 0 0), (6, .own 10768 1 0 1), (7, .i 1)], [(2576, [.st [.i (2 + row), .i 0]]), (10768, [.st [.i 0, .i 0]])]⟩ = some (.exit 0, stRi (n + 1 : Nat) row (rowT (n + 1) row) (n + 1)) := L
    unfold stRi at L'
    have len := rowT_len n row
    have tk0 : List.take (2 * n + 1) ((rowT (n + 1) row).map e2) = (rowT (n + 1) row).map e2 := List.take_of_length_le (by simp [len])
    rcases hr with rfl | rfl
    · simp [-Int.natCast_add] at L'
      simp [F_impl_RowTerm, c_impl_manyOk, c_impl_rowOk, h.1, h.2, L', len, tk0, -Int.natCast_add]
    · simp [-Int.natCast_add] at L'
      simp [F_impl_RowTerm, c_impl_manyOk, c_impl_rowOk, h.1, h.2, L', len, tk0, -Int.natCast_add]
  · rw [if_neg h]
    cases h1 : nOk m with
    | false => simp [F_impl_RowTerm, c_impl_manyOk, h1]
    | true =>
      have h2 : rwOk row = false := by
        cases h2 : rwOk row with
        | false => rfl
        | true => exact absurd (by rw [h1, h2]; rfl) h
      simp [F_impl_RowTerm, c_impl_manyOk, c_impl_rowOk, h1, h2]
theorem eA_calli {us : List T} (h : us.all tOk = true) {row a : Int} (h0 : 0 ≤ a) (h1 : a < us.length) : ∃ c q : Int, atI (us.map e2) a = some (.st [.i c, .i q]) ∧ c = cA us a.toNat ∧ call lf n_impl_endChance [.st [.i c, .i q], .i row] = some (.i (eA us row a.toNat), []) := by
  obtain ⟨c, q, c1, c2, c3⟩ := cA_at (us := us) h0 h1
  refine ⟨c, q, c1, c2, ?_⟩
  have e : us.getD a.toNat (0, 0) = us[a.toNat] := by simp [List.getD, show a.toNat < us.length by omega]
  have tq := tOk_iff.1 (List.all_eq_true.1 h us[a.toNat] (List.getElem_mem (by omega)))
  rw [← e, c3] at tq
  rw [c_impl_endChance c q row tq.2]
  unfold eA
  rw [c3]
set_option maxHeartbeats 4000000 in
theorem l_impl_RowAverage {us : List T} (h : tsOk us = true) (row : Int) (os : List Int) (ho5 : os.length ≤ 5) (rest : List Int) : ∀ (k : Nat) (on sum : Int) (so : Nat), orS us.length so rest = true → 0 ≤ on → on ≤ 6 ^ k → 0 ≤ sum → sum ≤ 70000 * k → k + rest.length = os.length → (os.map DV.i).drop k = rest.map .i →
    ∃ on' : Int, ex lf F_impl_RowAverage_W0 ⟨[(0, .sl 0 (us.map e2)), (2, .i row), (8, .i sum), (9, .i (on * 6 ^ rest.length)), (30, .sl 0 (os.map .i)), (31, .i os.length), (32, .i k)], []⟩ =
      some (.exit 0, ⟨[(0, .sl 0 (us.map e2)), (2, .i row), (8, .i (sum + rA us row on rest)), (9, .i on'), (30, .sl 0 (os.map .i)), (31, .i os.length), (32, .i os.length)], []⟩) := by
  have h' := tsOk_iff.1 h
  induction rest with
  | nil =>
    intro k on sum so ho n0 n1 s0 s1 hn hd
    have hk : k = os.length := by simpa using hn
    refine ⟨on * 6 ^ ([] : List Int).length, ?_⟩
    rw [w_impl_RowAverage_0]
    simp [F_impl_RowAverage_L0, hk, rA]
  | cons a rest ih =>
    intro k on sum so ho n0 n1 s0 s1 hn hd
    obtain ⟨o1, o2, o3⟩ := orS_cons.1 ho
    have hn2 : (k : Int) + ((DV.i a :: rest.map DV.i).length : Nat) = os.length := by simp at hn ⊢; omega
    obtain ⟨q1, q2, q3, q4, q5, q6⟩ := stp (es := os.map DV.i) (by omega) hn2 (by omega) (by simpa using hd)
    have kl : k < os.length := by omega
    obtain ⟨c, q, x1, x2, x3⟩ := eA_calli h'.2 (row := row) o1.1 o1.2
    have cn := cA_nn h'.2 a.toNat
    have ea := eA_bd h'.2 (row := row) (a := a.toNat) (by omega)
    have hl : rest.length + 1 = os.length - k := by simp at hn; omega
    have pb := p6le (i := k) (j := rest.length + 1) (by omega) n0 n1
    have pk := p6 (n := k) (by omega)
    have pr := p6 (n := rest.length) (by omega)
    have m2 : 0 ≤ c * (on * 6 ^ (rest.length + 1)) ∧ c * (on * 6 ^ (rest.length + 1)) ≤ 9 * 7776 := by
      exact ⟨Int.mul_nonneg (by omega) pb.1, Int.mul_le_mul (by omega) pb.2 pb.1 (by omega)⟩
    have w3 : wr (c * (on * 6 ^ (rest.length + 1))) = c * (on * 6 ^ (rest.length + 1)) := wr_id (by omega) (by omega)
    have w4 : wr (sum + c * (on * 6 ^ (rest.length + 1))) = sum + c * (on * 6 ^ (rest.length + 1)) := wr_id (by omega) (by omega)
    have w5 : wr (6 - eA us row a.toNat) = 6 - eA us row a.toNat := wr_id (by omega) (by omega)
    have dv : (on * 6 ^ (rest.length + 1)).tdiv 6 = on * 6 ^ rest.length := by
      rw [Int.pow_succ, ← Int.mul_assoc]
      exact Int.mul_tdiv_cancel _ (by omega)
    have pb0 : 0 ≤ on * 6 ^ rest.length ∧ on * 6 ^ rest.length ≤ 7776 := p6le (i := k) (j := rest.length) (by omega) n0 n1
    have w7 : wr (on * 6 ^ rest.length) = on * 6 ^ rest.length := wr_id (by omega) (by omega)
    have m3 : 0 ≤ on * (6 - eA us row a.toNat) ∧ on * (6 - eA us row a.toNat) ≤ 6 ^ (k + 1) := by
      refine ⟨Int.mul_nonneg n0 (by omega), ?_⟩
      rw [Int.pow_succ]
      exact Int.mul_le_mul n1 (by omega) (by omega) (by omega)
    have m4 : 0 ≤ on * 6 ^ rest.length * (6 - eA us row a.toNat) ∧ on * 6 ^ rest.length * (6 - eA us row a.toNat) ≤ 7776 * 6 :=
      ⟨Int.mul_nonneg pb0.1 (by omega), Int.mul_le_mul pb0.2 (by omega) (by omega) (by omega)⟩
    have w8 : wr (on * 6 ^ rest.length * (6 - eA us row a.toNat)) = on * (6 - eA us row a.toNat) * 6 ^ rest.length := by
      rw [wr_id (by omega) (by omega), Int.mul_assoc, Int.mul_assoc, Int.mul_comm (6 ^ rest.length)]
    have e : sum + rA us row on (a :: rest) = sum + c * (on * 6 ^ (rest.length + 1)) + rA us row (on * (6 - eA us row a.toNat)) rest := by simp only [rA, x2, Int.mul_assoc]; omega
    obtain ⟨on', I⟩ := ih (k + 1) (on * (6 - eA us row a.toNat)) (sum + c * (on * 6 ^ (rest.length + 1))) _ o3 m3.1 m3.2 (by omega) (by omega) (by simp at hn; omega) (by simpa using q6)
    refine ⟨on', ?_⟩
    have q3' : wr ((k : Int) + 1) = ((k + 1 : Nat) : Int) := by rw [q3]; omega
    have o11 := o1.1
    have o12 := o1.2
    rw [w_impl_RowAverage_0, e]
    simp only [List.length_cons] at *
    generalize on * (6 - eA us row a.toNat) * 6 ^ rest.length = G at *
    generalize on * 6 ^ (rest.length + 1) = P at *
    generalize on * 6 ^ rest.length = Q at *
    generalize rA us row _ rest = Z at *
    generalize eA us row a.toNat = E at *
    simp [F_impl_RowAverage_L0, kl, q1, q2, q3', o11, o12, x1, x3, w3, w4, w5, dv, w7, w8, I, -Int.natCast_add]
theorem c_impl_RowAverage (us : List T) (os : List Int) (row : Int) (ha : (us.length : Int) < 1099511627776) (hc : (os.length : Int) < 1099511627776) :
    call lf n_impl_RowAverage [.sl 0 (us.map e2), .sl 0 (os.map .i), .i row] = some (.i (raOf us os row), []) := by
  rw [call_k lf n_impl_RowAverage _ (F := F_impl_RowAverage) rfl rfl]
  have C1 := c_impl_TestsOk us ha
  have C3 := c_impl_OrderOk us.length os hc
  have C4 := c_impl_rowOk row
  unfold raOf raOk
  cases h1 : tsOk us with
  | false => rw [h1] at C1; simp [F_impl_RowAverage, C1]
  | true =>
    rw [h1] at C1
    cases h3 : orOk us.length os with
    | false => rw [h3] at C3; simp [F_impl_RowAverage, C1, C3]
    | true =>
      rw [h3] at C3
      cases h4 : rwOk row with
      | false =>
        rw [h4] at C4
        simp [F_impl_RowAverage, C1, C3, C4]
      | true =>
        rw [h4] at C4
        obtain ⟨g1, g2, g3⟩ := orOk_iff.1 h3
        have W := c_impl_wholeOf (n := us.length) (by omega)
        obtain ⟨on', L⟩ := l_impl_RowAverage h1 row os (by omega) os 0 1 0 0 g3 (by omega) (by omega) (by omega) (by omega) (by omega) (by simp)
        have el : os.length = us.length := by omega
        simp only [Int.natCast_zero, Int.zero_add, Int.one_mul, el] at L
        simp [F_impl_RowAverage, C1, C3, C4, W, el, L]
end
section
attribute [-simp] DV.cells
attribute [local simp] sliceD cells_st cells_sl cells_i cells_y cells_b cells_s cells_w
attribute [local simp] lend_e3 adopt_e3 new_e3 al_e3 lt_e3
theorem c_averageAsking {c q no yes : Int} {n : Nat} (hn : n ≤ 5) (hc : 1 ≤ c ∧ c ≤ 9) (hq : 1 ≤ q ∧ q ≤ 5) (h0 : 0 ≤ no ∧ no ≤ 400000) (h1 : 0 ≤ yes ∧ yes ≤ 400000) :
    call lf n_impl_averageAsking [.st [.i c, .i q], .i n, .i no, .i yes] = some (.i (c * 6 ^ n + (6 - q) * no + q * yes), []) := by
  have W := c_impl_wholeOf hn
  have p := p6 hn
  have b1 : c * 6 ^ n ≤ 9 * 7776 := Int.mul_le_mul hc.2 p.2 (by omega) (by omega)
  have b1' : 0 ≤ c * 6 ^ n := Int.mul_nonneg (by omega) (by omega)
  have b2 : (6 - q) * no ≤ 5 * 400000 := Int.mul_le_mul (by omega) h0.2 h0.1 (by omega)
  have b2' : 0 ≤ (6 - q) * no := Int.mul_nonneg (by omega) h0.1
  have b3 : q * yes ≤ 5 * 400000 := Int.mul_le_mul (by omega) h1.2 h1.1 (by omega)
  have b3' : 0 ≤ q * yes := Int.mul_nonneg (by omega) h1.1
  have w2 : wr (c * 6 ^ n) = c * 6 ^ n := wr_id (by omega) (by omega)
  have w3 : wr (6 - q) = 6 - q := wr_id (by omega) (by omega)
  have w4 : wr ((6 - q) * no) = (6 - q) * no := wr_id (by omega) (by omega)
  have w5 : wr (c * 6 ^ n + (6 - q) * no) = c * 6 ^ n + (6 - q) * no := wr_id (by omega) (by omega)
  have w6 : wr (q * yes) = q * yes := wr_id (by omega) (by omega)
  have w7 : wr (c * 6 ^ n + (6 - q) * no + q * yes) = c * 6 ^ n + (6 - q) * no + q * yes := wr_id (by omega) (by omega)
  rw [call_k lf n_impl_averageAsking _ (F := F_impl_averageAsking) rfl rfl]
  generalize (6 : Int) ^ n = z at *
  simp [F_impl_averageAsking, W, w2, w3, w4, w5, w6, w7]
set_option maxHeartbeats 4000000 in
theorem c_averagesOf_1 {us t : List T} {ks : List Int} (hu : us.all tOk = true) (hm : us.length ≤ 5) (hl : ks.length = us.length) {k : Nat} (hk : k < us.length) {no yes : Int} (h0 : 0 ≤ no ∧ no ≤ 400000) (h1 : 0 ≤ yes ∧ yes ≤ 400000) :
    call lf n_impl_averagesOf_1 [pD us.length t ks, .i k, .i no, .i yes, .adr (.sl 0 (us.map e2))] = some (.i (avQ us ks k no yes), []) := by
  obtain ⟨c, q, c1, c2, c3⟩ := cA_at (us := us) (a := (k : Int)) (by omega) (by omega)
  rw [Int.toNat_natCast] at c2 c3
  have tq : tOk (c, q) = true := by
    have e : us.getD k (0, 0) = us[k] := by simp [List.getD, hk]
    rw [← c3, e]
    exact List.all_eq_true.1 hu us[k] (List.getElem_mem hk)
  have tq := tOk_iff.1 tq
  simp only at tq
  have H := c_howMany (m := us.length) (t := t) (ks := ks) (by omega)
  have kk := kn_uk ks
  have A := c_averageAsking (n := uk ks) (by omega) tq.1 tq.2 h0 h1
  have w1 : wr ((us.length : Int) - kn ks) = (uk ks : Int) := by rw [wr_id (by omega) (by omega)]; omega
  unfold avQ
  rw [c3, ← c2]
  simp only
  have ul : (us.map e2).length = us.length := by simp
  have kl : (k : Int) < us.length := by omega
  unfold pD pv at *
  rw [call_k lf n_impl_averagesOf_1 _ (F := F_impl_averagesOf_1) rfl rfl]
  generalize us.map e2 = U at *
  generalize c * 6 ^ uk ks + (6 - q) * no + q * yes = z at *
  generalize uk ks = u at *
  generalize kn ks = v at *
  generalize aN ks = a at *
  simp [F_impl_averagesOf_1, c1, ul, kl, H, A, w1]
theorem c_averagesOf (us : List T) : call lf n_impl_averagesOf [.sl 0 (us.map e2)] = some (.fn n_impl_averagesOf_1 [.adr (.sl 0 (us.map e2))], []) := by
  rw [call_k lf n_impl_averagesOf _ (F := F_impl_averagesOf) rfl rfl]
  simp [F_impl_averagesOf]
def stLsA (us t : List T) (ks : List Int) (b : Int × Int) (i : Nat) : LS :=
  ⟨[(1, .fn n_impl_averagesOf_1 [.adr (.sl 0 (us.map e2))]), (2, .oad 1056 1 0 0), (6, .i b.1), (7, .i b.2), (19, .i us.length), (20, .i i)], [(1056, [pD us.length t ks])]⟩
set_option maxHeartbeats 8000000 in
theorem c_leastFromA {us t : List T} (hu : us.all tOk = true) (hm : 1 ≤ us.length ∧ us.length ≤ 5) (ht : tmOk us.length t = true) : ∀ (f : Nat) (ks : List Int), f ≤ 5 → ks.length = us.length → ks.all kOk = true → uk ks ≤ f →
    call lf n_impl_leastFrom [pD us.length t ks, .fn n_impl_averagesOf_1 [.adr (.sl 0 (us.map e2))]] = some (.tup [.i (lsF us.length t (avQ us) f ks).1, .i (lsF us.length t (avQ us) f ks).2], [])
  | f, ks, hf5, hl, hk, hf => by
    have F := c_isForced ht hl hk
    cases hc : fcd us.length t ks with
    | true =>
      have e : lsF us.length t (avQ us) f ks = (-1, 0) := by
        cases f with
        | zero => rfl
        | succ f => simp only [lsF]; rw [if_pos hc]
      rw [e]
      rw [hc] at F
      unfold pD pv at *
      rw [call_k lf n_impl_leastFrom _ (F := F_impl_leastFrom) rfl rfl]
      simp [F_impl_leastFrom, F]
    | false =>
      cases f with
      | zero =>
        rw [fcd_all hl hk (by omega)] at hc
        cases hc
      | succ f =>
        rw [hc] at F
        have e : lsF us.length t (avQ us) (f + 1) ks = lsB (fun k => (avQ us) ks k (lsF us.length t (avQ us) f (ks.set k 0)).2 (lsF us.length t (avQ us) f (ks.set k 1)).2) ks us.length := by
          simp only [lsF]
          rw [if_neg (by rw [hc]; simp)]
        rw [e]
        have us' := fun (k : Nat) (hkk : ks[k]? = some (-1)) (b : Bool) => uk_set (b := bI b) (by cases b <;> simp [bI]) hkk
        have BD : ∀ (k : Nat) (b : Bool), ks[k]? = some (-1) → 0 ≤ (lsF us.length t (avQ us) f (ks.set k (bI b))).2 ∧ (lsF us.length t (avQ us) f (ks.set k (bI b))).2 ≤ 400000 := fun k b hkk => by
          have := us' k hkk b
          exact ⟨(lsF_bPl hu f (ks.set k (bI b)) (by simpa using hl) (kOk_set hk k b) (by omega)).1, by have := lsF_up (t := t) hu hm.2 (f := f) (ks := ks.set k (bI b)) (by simpa using hl) (kOk_set hk k b) (by omega) (by omega); omega⟩
        generalize hS : (fun k => (avQ us) ks k (lsF us.length t (avQ us) f (ks.set k 0)).2 (lsF us.length t (avQ us) f (ks.set k 1)).2) = S
        have LP := loop_count (lf := lf) (L := F_impl_leastFrom_L0) us.length (fun i => stLsA us t ks (lsB S ks i) i) (x := .exit 0) (R := stLsA us t ks (lsB S ks us.length) us.length) (fun i hi => by
          have C := c_canAsk (m := us.length) (t := t) (ks := ks) (by omega) hl (i : Int)
          have w1 : wr ((i : Int) + 1) = ((i + 1 : Nat) : Int) := by rw [wr_id (by omega) (by omega)]; omega
          have hi' : (i : Int) < (us.length : Int) := by omega
          have eb : lsB S ks (i + 1) = if ks[i]? = some (-1) then (if (lsB S ks i).1 = -1 ∨ S i < (lsB S ks i).2 then ((i : Int), S i) else lsB S ks i) else lsB S ks i := rfl
          have ca : caK us.length ks (i : Int) = decide (ks[i]? = some (-1)) := by
            unfold caK
            rw [decide_eq_true (show 0 ≤ (i : Int) ∧ (i : Int) < (us.length : Int) by omega), Int.toNat_natCast, Bool.true_and]
          rw [ca] at C
          rw [eb]
          by_cases hkk : ks[i]? = some (-1)
          · rw [if_pos hkk]
            rw [decide_eq_true hkk] at C
            have B0 := c_answered (m := us.length) (t := t) false (by omega) hk hkk
            have B1 := c_answered (m := us.length) (t := t) true (by omega) hk hkk
            have u0 := us' i hkk false
            have u1 := us' i hkk true
            have G0 := c_leastFromA hu hm ht f (ks.set i (bI false)) (by omega) (by simpa using hl) (kOk_set hk i false) (by omega)
            have G1 := c_leastFromA hu hm ht f (ks.set i (bI true)) (by omega) (by simpa using hl) (kOk_set hk i true) (by omega)
            have D0 := BD i false hkk
            have D1 := BD i true hkk
            rw [bI_0] at B0 G0 D0
            rw [bI_1] at B1 G1 D1
            have Pr := c_averagesOf_1 (us := us) (t := t) (ks := ks) hu hm.2 hl (k := i) hi (no := (lsF us.length t (avQ us) f (ks.set i 0)).2) (yes := (lsF us.length t (avQ us) f (ks.set i 1)).2) D0 D1
            have eS : S i = (avQ us) ks i (lsF us.length t (avQ us) f (ks.set i 0)).2 (lsF us.length t (avQ us) f (ks.set i 1)).2 := by rw [← hS]
            rw [← eS] at Pr
            clear BD hS eb
            generalize lsF us.length t (avQ us) f (ks.set i 0) = x at *
            generalize lsF us.length t (avQ us) f (ks.set i 1) = y at *
            obtain ⟨x1, x2⟩ := x
            obtain ⟨y1, y2⟩ := y
            generalize lsB S ks i = b at *
            obtain ⟨b1, b2⟩ := b
            generalize S i = s at *
            simp only at *
            unfold stLsA
            unfold pD pv at *
            by_cases hb : b1 = -1
            · rw [if_pos (.inl hb)]
              have hb' : (b1 == -1) = true := by simpa using hb
              subst hb
              simp [F_impl_leastFrom_L0, hi, hi', C, B0, B1, G0, G1, Pr, w1, -Int.natCast_add]
            · have hb' : (b1 == -1) = false := beq_eq_false_iff_ne.2 hb
              by_cases hlt : s < b2
              · rw [if_pos (.inr hlt)]
                simp [F_impl_leastFrom_L0, hi, hi', C, B0, B1, G0, G1, Pr, w1, hb', hlt, -Int.natCast_add]
              · rw [if_neg (by rintro (h | h); exact hb h; exact hlt h)]
                simp [F_impl_leastFrom_L0, hi, hi', C, B0, B1, G0, G1, Pr, w1, hb', hlt, -Int.natCast_add]
          · rw [if_neg hkk]
            rw [decide_eq_false hkk] at C
            clear BD hS eb
            generalize lsB S ks i = b at *
            unfold stLsA
            unfold pD pv at *
            simp [F_impl_leastFrom_L0, hi, hi', C, w1, -Int.natCast_add]) (by
          unfold stLsA
          unfold pD pv at *
          simp [F_impl_leastFrom_L0]) (by simp)
        have z : lsB S ks 0 = (-1, 0) := rfl
        rw [z] at LP
        unfold stLsA at LP
        simp only [Int.natCast_zero] at LP
        change ex lf F_impl_leastFrom_W0 _ = _ at LP
        clear BD hS
        unfold pD pv at *
        rw [call_k lf n_impl_leastFrom _ (F := F_impl_leastFrom) rfl rfl]
        generalize lsB S ks us.length = b at *
        simp [F_impl_leastFrom, F, LP]
end
section
attribute [-simp] DV.cells
attribute [local simp] sliceD cells_st cells_sl cells_i cells_y cells_b cells_s cells_w
attribute [local simp] lend_e3 adopt_e3 new_e3 al_e3 lt_e3
theorem lsF_root {us t : List T} (h : us.all tOk = true) : (lsF us.length t (avQ us) us.length (non us.length)).2 = bA us t := by
  obtain ⟨_, a2, _⟩ := lsF_bPl h (t := t) us.length (non us.length) (non_len _) (non_all _) (by rw [uk_non]; exact Nat.le_refl _)
  rw [kp_non, Int.one_mul] at a2
  exact a2
set_option maxHeartbeats 4000000 in
theorem c_impl_BestAverage (us t : List T) (ha : (us.length : Int) < 1099511627776) (hb : (t.length : Int) < 1099511627776) : call lf n_impl_BestAverage [.sl 0 (us.map e2), .sl 0 (t.map e2)] = some (.i (baOf us t), []) := by
  have C1 := c_impl_TestsOk us ha
  have C2 := c_impl_TermOk us.length t hb
  have ul : (us.map e2).length = us.length := by simp
  rw [call_k lf n_impl_BestAverage _ (F := F_impl_BestAverage) rfl rfl]
  unfold baOf
  cases h1 : tsOk us with
  | false => rw [h1] at C1; simp [F_impl_BestAverage, C1]
  | true =>
    rw [h1] at C1
    have h' := tsOk_iff.1 h1
    cases h2 : tmOk us.length t with
    | false => rw [h2] at C2; simp [F_impl_BestAverage, C1, C2]
    | true =>
      rw [h2] at C2
      have C3 := c_startOf (t := t) (by omega) h2
      have C4 := c_averagesOf us
      have C5 := c_leastFromA h'.2 (by omega) h2 us.length (non us.length) (by omega) (non_len _) (non_all _) (by rw [uk_non]; exact Nat.le_refl _)
      rw [lsF_root h'.2] at C5
      generalize (lsF us.length t (avQ us) us.length (non us.length)).1 = x at *
      unfold pD pv at *
      simp [F_impl_BestAverage, C1, C2, C3, C4, C5]
end
section
attribute [-simp] DV.cells
attribute [local simp] sliceD cells_st cells_sl cells_i cells_y cells_b cells_s cells_w
theorem c_impl_ratioOf (c q row : Int) (hq : 1 ≤ q ∧ q ≤ 5) : call lf n_impl_ratioOf [.st [.i c, .i q], .i row] = some (.st [.i c, .i (if row = 0 then 6 - q else q)], []) := by
  rw [call_k lf n_impl_ratioOf _ (F := F_impl_ratioOf) rfl rfl]
  have C := c_impl_endChance c q row hq
  generalize (if row = 0 then 6 - q else q) = z at *
  simp [F_impl_ratioOf, C]
theorem c_impl_isLess (a b x y : Int) (h1 : 0 ≤ a * y ∧ a * y ≤ 1000) (h2 : 0 ≤ x * b ∧ x * b ≤ 1000) : call lf n_impl_ratio_isLess [.st [.i a, .i b], .st [.i x, .i y]] = some (.b (decide (a * y < x * b)), []) := by
  rw [call_k lf n_impl_ratio_isLess _ (F := F_impl_ratio_isLess) rfl rfl]
  have w1 : wr (a * y) = a * y := wr_id (by omega) (by omega)
  have w2 : wr (x * b) = x * b := wr_id (by omega) (by omega)
  simp [F_impl_ratio_isLess, w1, w2]
theorem c_impl_less {us : List T} (h : tsOk us = true) (row : Int) {a b : Int} (ha : 0 ≤ a ∧ a < us.length) (hb : 0 ≤ b ∧ b < us.length) :
    call lf n_impl_RatioOrder_1 [.i a, .i b, .adr (.sl 0 (us.map e2)), .adr (.i row)] = some (.b (!(rLe us row b a)), []) := by
  have h' := tsOk_iff.1 h
  obtain ⟨c1, q1, x1, x2, x3⟩ := cA_at (us := us) ha.1 ha.2
  obtain ⟨c2, q2, y1, y2, y3⟩ := cA_at (us := us) hb.1 hb.2
  have tq1 := tOk_iff.1 (List.all_eq_true.1 h'.2 us[a.toNat] (List.getElem_mem (by omega)))
  have tq2 := tOk_iff.1 (List.all_eq_true.1 h'.2 us[b.toNat] (List.getElem_mem (by omega)))
  rw [← show us.getD a.toNat (0, 0) = us[a.toNat] by simp [List.getD, show a.toNat < us.length by omega], x3] at tq1
  rw [← show us.getD b.toNat (0, 0) = us[b.toNat] by simp [List.getD, show b.toNat < us.length by omega], y3] at tq2
  have R1 := c_impl_ratioOf c1 q1 row tq1.2
  have R2 := c_impl_ratioOf c2 q2 row tq2.2
  have e1 : (if row = 0 then 6 - q1 else q1) = eA us row a.toNat := by unfold eA; rw [x3]
  have e2' : (if row = 0 then 6 - q2 else q2) = eA us row b.toNat := by unfold eA; rw [y3]
  rw [e1] at R1
  rw [e2'] at R2
  have b1 := eA_bd h'.2 (row := row) (a := a.toNat) (by omega)
  have b2 := eA_bd h'.2 (row := row) (a := b.toNat) (by omega)
  have t1 := tq1.1
  have t2 := tq2.1
  simp only at t1 t2
  have I := c_impl_isLess c1 (eA us row a.toNat) c2 (eA us row b.toNat) ⟨Int.mul_nonneg (by omega) (by omega), Int.le_trans (Int.mul_le_mul (show c1 ≤ 9 by omega) (show eA us row b.toNat ≤ 5 by omega) (by omega) (by omega)) (by omega)⟩ ⟨Int.mul_nonneg (by omega) (by omega), Int.le_trans (Int.mul_le_mul (show c2 ≤ 9 by omega) (show eA us row a.toNat ≤ 5 by omega) (by omega) (by omega)) (by omega)⟩
  have e : (!(rLe us row b a)) = decide (c1 * eA us row b.toNat < c2 * eA us row a.toNat) := by
    unfold rLe
    rw [← x2, ← y2]
    by_cases hc : c2 * eA us row a.toNat ≤ c1 * eA us row b.toNat
    · rw [decide_eq_true hc, decide_eq_false (by omega)]; rfl
    · rw [decide_eq_false hc, decide_eq_true (by omega)]; rfl
  rw [e]
  have ha1 := ha.1
  have ha2 := ha.2
  have hb1 := hb.1
  have hb2 := hb.2
  rw [call_k lf n_impl_RatioOrder_1 _ (F := F_impl_RatioOrder_1) rfl rfl]
  simp [F_impl_RatioOrder_1, x1, y1, R1, R2, I]
theorem c_Insert (es : List DV) (x : DV) {n : Nat} (hn : n ≤ es.length) (hb : es.length ≤ 1000) : call lf n_slices_Insert_int_int [.gv 1 es, .i n, .gv 1 [x]] = some (.fr 1 (es.take n ++ x :: es.drop n), []) := by
  rw [call_prim lf n_slices_Insert_int_int _ (F := F_slices_Insert_int_int) rfl rfl, ins_k, if_pos ⟨by omega, by omega, by simp [bound]; omega, by simp⟩]
  simp
def stIs (us : List T) (row k : Int) (L : List Int) (a : Nat) : LS := ⟨[(0, .own 14 L.length 0 L.length), (1, .i k), (2, .fn n_impl_RatioOrder_1 [.adr (.sl 0 (us.map e2)), .adr (.i row)]), (7, .i a)], [(14, L.map .i)]⟩
set_option maxHeartbeats 4000000 in
theorem ins_loop {us : List T} (h : tsOk us = true) (row : Int) {k : Int} (hk : 0 ≤ k ∧ k < us.length) {L : List Int} (hL : L.length ≤ 5) {p : Nat} (H : ∀ j (hj : j < L.length), (0 ≤ L[j] ∧ L[j] < us.length) ∧ rLe us row L[j] k = decide (j < p)) : ∀ d : Nat, p + d ≤ L.length →
    ex lf F_impl_inserted_int_W0 (stIs us row k L (p + d)) = some (.exit 0, stIs us row k L p) := by
  have tk : List.take L.length (L.map DV.i) = L.map .i := List.take_of_length_le (by simp)
  have one : ∀ (j : Nat) (hj : j < L.length), atI (L.map DV.i) ((j : Nat) : Int) = some (.i L[j]) ∧ atN (L.map DV.i) j = some (.i L[j]) ∧ wr (((j + 1 : Nat) : Int) - 1) = (j : Nat) ∧ (0 : Int) < ((j + 1 : Nat) : Int) ∧ call lf n_impl_RatioOrder_1 [.i k, .i L[j], .adr (.sl 0 (us.map e2)), .adr (.i row)] = some (.b (!(decide (j < p))), []) := by
    intro j hj
    obtain ⟨h1, h2⟩ := H j hj
    refine ⟨?_, ?_, ?_, by omega, ?_⟩
    · simp only [atI, if_pos (Int.natCast_nonneg _)]
      show (L.map DV.i)[((j : Nat) : Int).toNat]? = _
      rw [Int.toNat_natCast]; simp [hj]
    · show (L.map DV.i)[j]? = _
      simp [hj]
    · rw [wr_id (by omega) (by omega)]; omega
    · rw [c_impl_less h row hk h1, h2]
  intro d
  induction d with
  | zero =>
    intro hd
    cases p with
    | zero =>
      rw [w_impl_inserted_int_0]
      simp [stIs, F_impl_inserted_int_L0]
    | succ p =>
      obtain ⟨q1, q2, q3, q4, q5⟩ := one p (by omega)
      rw [decide_eq_true (show p < p + 1 by omega)] at q5
      have hp : p < L.length := by omega
      rw [w_impl_inserted_int_0]
      simp [stIs, F_impl_inserted_int_L0, tk, q1, q2, q3, q4, q5, hp, -Int.natCast_add]
  | succ d ih =>
    intro hd
    obtain ⟨q1, q2, q3, q4, q5⟩ := one (p + d) (by omega)
    rw [decide_eq_false (show ¬ p + d < p by omega)] at q5
    have hp : p + d < L.length := by omega
    have I := ih (by omega)
    rw [w_impl_inserted_int_0, show p + (d + 1) = p + d + 1 by omega]
    unfold stIs at *
    simp [F_impl_inserted_int_L0, tk, q1, q2, q3, q4, q5, hp, I, -Int.natCast_add]
theorem c_impl_inserted {us : List T} (h : tsOk us = true) (row : Int) {k : Int} (hk : 0 ≤ k ∧ k < us.length) {L : List Int} (hL : L.length ≤ 5) {p : Nat} (hp : p ≤ L.length) (H : ∀ j (hj : j < L.length), (0 ≤ L[j] ∧ L[j] < us.length) ∧ rLe us row L[j] k = decide (j < p)) :
    call lf n_impl_inserted_int [.gv 1 (L.map .i), .i k, .fn n_impl_RatioOrder_1 [.adr (.sl 0 (us.map e2)), .adr (.i row)]] = some (.fr 1 ((L.take p ++ k :: L.drop p).map .i), []) := by
  have W := ins_loop h row hk hL H (L.length - p) (by omega)
  rw [show p + (L.length - p) = L.length by omega] at W
  unfold stIs at W
  have I := c_Insert (L.map .i) (.i k) (n := p) (by simpa using hp) (by simp; omega)
  have e : (L.map DV.i).take p ++ DV.i k :: (L.map DV.i).drop p = (L.take p ++ k :: L.drop p).map .i := by simp
  rw [e] at I
  have le : (L.take p ++ k :: L.drop p).length = L.length + 1 := by simp; omega
  rw [call_k lf n_impl_inserted_int _ (F := F_impl_inserted_int) rfl rfl]
  generalize L.take p ++ k :: L.drop p = M at *
  simp [F_impl_inserted_int, W, I]
theorem rO_split {us : List T} (h : tsOk us = true) (row : Int) {i : Nat} (hi : i < us.length) : ∀ j (hj : j < (rO us row i).length), (0 ≤ (rO us row i)[j] ∧ (rO us row i)[j] < us.length) ∧ rLe us row (rO us row i)[j] i = decide (j < insPos us row i (rO us row i)) := by
  have h' := tsOk_iff.1 h
  have S := rO_sorted h'.2 row i (by omega)
  have M : ∀ o ∈ rO us row i, 0 ≤ o ∧ o < us.length := fun o ho => by have := rO_mem ho; omega
  generalize rO us row i = L at *
  intro j hj
  refine ⟨M _ (List.getElem_mem hj), ?_⟩
  induction L generalizing j with
  | nil => simp at hj
  | cons o r ih =>
    obtain ⟨p1, p2⟩ := List.pairwise_cons.1 S
    have ih := ih p2 (fun o ho => M o (List.mem_cons_of_mem _ ho))
    by_cases hc : rLe us row o i = true
    · have e : insPos us row i (o :: r) = insPos us row i r + 1 := by simp only [insPos]; rw [if_pos hc]
      rw [e]
      cases j with
      | zero => simp [hc]
      | succ j =>
        have := ih j (by simpa using hj)
        rw [List.getElem_cons_succ, this]
        simp
    · have e : insPos us row i (o :: r) = 0 := by simp only [insPos]; rw [if_neg hc]
      rw [e]
      have hf : rLe us row o i = false := by simpa using hc
      cases j with
      | zero => simp [hf]
      | succ j =>
        rw [List.getElem_cons_succ]
        have hj' : j < r.length := by simpa using hj
        have hm := M _ (List.mem_cons_self ..)
        have hr := M _ (List.mem_cons_of_mem _ (List.getElem_mem hj'))
        cases hq : rLe us row r[j] i with
        | false => simp
        | true =>
          have := rLe_trans h'.2 (row := row) (a := o) (b := r[j]) (c := (i : Int)) (by omega) (by omega) (by omega) (p1 _ (List.getElem_mem hj')) hq
          rw [hf] at this; cases this
def stOi (us : List T) (row : Int) (K : Nat) (L : List Int) (i : Nat) : LS := ⟨[(5, .fn n_impl_RatioOrder_1 [.adr (.sl 0 (us.map e2)), .adr (.i row)]), (6, .own K L.length 0 L.length), (18, .i us.length), (19, .i i)], [(K, L.map .i)]⟩
set_option maxHeartbeats 4000000 in
theorem ratio_outerI {us : List T} (h : tsOk us = true) (row : Int) (j : Nat) : ∀ (i K : Nat), (K = 3080 ∨ K = 12808) → i + j = us.length →
    ex lf F_impl_RatioOrder_W0 (stOi us row K (rO us row i) i) = some (.exit 0, stOi us row 3080 (rO us row us.length) us.length) := by
  have h' := tsOk_iff.1 h
  induction j with
  | zero =>
    intro i K hK hi
    have e : i = us.length := by omega
    subst e
    rw [w_impl_RatioOrder_0]
    rcases hK with rfl | rfl <;> simp [stOi, F_impl_RatioOrder_L0]
  | succ j ih =>
    intro i K hK hi
    have k2 := ih (i + 1) 12808 (.inr rfl) (by omega)
    have hlt : i < us.length := by omega
    have ll := rO_len us row i
    have pl := insPos_le us row i (rO us row i)
    have I := c_impl_inserted h row (k := (i : Nat)) ⟨by omega, by omega⟩ (L := rO us row i) (by omega) pl (rO_split h row hlt)
    rw [← insR_pos us row i (rO us row i), show insR us row i (rO us row i) = rO us row (i + 1) from rfl] at I
    have l2 := rO_len us row (i + 1)
    have w1 : wr ((i : Int) + 1) = ((i + 1 : Nat) : Int) := by rw [wr_id (by omega) (by omega)]; omega
    have lt' : (i : Int) < us.length := by omega
    unfold stOi at *
    rw [l2] at k2
    rw [ll]
    have m1 : ((rO us row i).map DV.i).length = i := by simp [ll]
    have m2 : ((rO us row (i + 1)).map DV.i).length = i + 1 := by simp [l2]
    have lm : lendL ((rO us row i).map DV.i) = (rO us row i).map .i := by simp
    have am : ∀ b, adoptL b ((rO us row (i + 1)).map DV.i) = (rO us row (i + 1)).map .i := fun b => by simp
    rw [w_impl_RatioOrder_0]
    generalize (rO us row i).map DV.i = M at *
    generalize (rO us row (i + 1)).map DV.i = M2 at *
    rcases hK with rfl | rfl <;> simp [F_impl_RatioOrder_L0, hlt, lt', I, w1, k2, m1, m2, lm, am, -Int.natCast_add]
theorem c_impl_RatioOrder (us : List T) (row : Int) (ha : (us.length : Int) < 1099511627776) : call lf n_impl_RatioOrder [.sl 0 (us.map e2), .i row] = some (.fr 1 ((roL us row).map .i), []) := by
  rw [call_k lf n_impl_RatioOrder _ (F := F_impl_RatioOrder) rfl rfl]
  have C1 := c_impl_TestsOk us ha
  have C2 := c_impl_rowOk row
  unfold roL
  cases h1 : tsOk us with
  | false => rw [h1] at C1; simp [F_impl_RatioOrder, C1]
  | true =>
    rw [h1] at C1
    cases h2 : rwOk row with
    | false => rw [h2] at C2; simp [F_impl_RatioOrder, C1, C2]
    | true =>
      rw [h2] at C2
      have L := ratio_outerI h1 row us.length 0 3080 (.inl rfl) (by omega)
      unfold stOi at L
      have z : (rO us row 0).map DV.i = [] := rfl
      have z' : (rO us row 0).length = 0 := rfl
      rw [z, z'] at L
      simp only [Int.natCast_zero] at L
      have ll := rO_len us row us.length
      rw [ll] at L
      simp [F_impl_RatioOrder, C1, C2, L, ll]
end
section
attribute [-simp] DV.cells
attribute [local simp] sliceD cells_st cells_sl cells_i cells_y cells_b cells_s cells_w
attribute [local simp] lend_e3 adopt_e3 new_e3 al_e3 lt_e3
set_option maxHeartbeats 8000000 in
theorem law_FnBestAverage (x : List Nat) (_ : x.length ≤ Go.maxLen) (hb : ∀ y ∈ x, y < 256) : call lf n_laws_FnBestAverage [bys x] = some (.b true, []) := by
  show call lf n_laws_FnBestAverage [.sl 0 (x.map .y)] = _
  rw [call_k lf n_laws_FnBestAverage _ (F := F_laws_FnBestAverage) rfl rfl]
  by_cases hl : 1048576 < (x.length : Int)
  · simp (config := { maxSteps := 2000000 }) [F_laws_FnBestAverage, hl]
  · obtain ⟨us, t, u1, t1, d⟩ := c_DrawBestAverage hb (by omega)
    have D1 := c_impl_BestAverage us t (by omega) (by omega)
    have D2 := c_spec_BestAverage us t (by omega) (by omega)
    cases h : tsOk us && tmOk us.length t with
    | false =>
      have e : baOf us t = -1 := by unfold baOf; rw [h]; rfl
      rw [e] at D1 D2
      simp (config := { maxSteps := 2000000 }) [F_laws_FnBestAverage, hl, d, D1, D2, c_alive]
    | true =>
      have e0 : baOf us t = bA us t := by unfold baOf; rw [h]; rfl
      rw [e0] at D1 D2
      have hbo : boN us t = (boF us t).2 := by unfold boN boOk; rw [h]; rfl
      rw [Bool.and_eq_true] at h
      obtain ⟨hu, ht⟩ := h
      have hu' := tsOk_iff.1 hu
      have o := bX_ok (t := t) hu'.2
      have n0 := tA_nn (t := t) hu'.2 (bX us t) (non us.length)
      rw [o.2] at n0
      have n0' : ¬ bA us t < 0 := by omega
      have D3 := c_impl_BestOrder us t (by omega) (by omega)
      rw [hbo] at D3
      have le : bA us t ≤ (boF us t).2 := by rw [boF_av]; exact bA_ord hu (boF_or hu t)
      have D4 := c_impl_OtherTests us (by omega)
      rw [show others us = us.map other by simp [others, hu]] at D4
      have D5 := c_impl_DualTerm us.length t (by omega)
      rw [ht] at D5
      have D6 := c_impl_BestAverage (us.map other) (t.map dT) (by simp; omega) (by simp; omega)
      have e6 : baOf (us.map other) (t.map dT) = bA us t := by
        have a1 := others_ok hu
        have a2 := (tm_dual ht).1
        unfold baOf
        rw [show (us.map other).length = us.length by simp, a1, a2]
        exact bA_dual hu ht
      rw [e6] at D6
      have ROW : ∀ row : Int, row = 0 ∨ row = 1 → call lf n_impl_RowTerm [.i us.length, .i row] = some (.fr 2 ((rowT us.length row).map e2), []) ∧ call lf n_impl_BestAverage [.sl 0 (us.map e2), .sl 0 ((rowT us.length row).map e2)] = some (.i (rA us row 1 (rO us row us.length)), []) ∧ call lf n_impl_RatioOrder [.sl 0 (us.map e2), .i row] = some (.fr 1 ((rO us row us.length).map .i), []) ∧ call lf n_impl_RowAverage [.sl 0 (us.map e2), .sl 0 ((rO us row us.length).map .i), .i row] = some (.i (rA us row 1 (rO us row us.length)), []) := fun row hr => by
        have hw : rwOk row = true := rwOk_iff.2 (by omega)
        have hn : nOk us.length = true := nOk_iff.2 hu'.1
        have tm := row_tm (m := us.length) (by omega) (by omega) hr
        have ll := rO_len us row us.length
        have rl : (rowT us.length row).length ≤ 9 := by
          obtain ⟨n, hn⟩ : ∃ n, us.length = n + 1 := ⟨us.length - 1, by omega⟩
          rw [hn, rowT_len]; omega
        refine ⟨?_, ?_, ?_, ?_⟩
        · have := c_impl_RowTerm us.length row
          rw [show rwL us.length row = rowT us.length row by unfold rwL; rw [hn, hw, Int.toNat_natCast]; rfl] at this
          exact this
        · have := c_impl_BestAverage us (rowT us.length row) (by omega) (by omega)
          rw [show baOf us (rowT us.length row) = rA us row 1 (rO us row us.length) by unfold baOf; rw [hu, tm]; exact bA_row hu hr] at this
          exact this
        · have := c_impl_RatioOrder us row (by omega)
          rw [show roL us row = rO us row us.length by unfold roL; rw [hu, hw]; rfl] at this
          exact this
        · have := c_impl_RowAverage us (rO us row us.length) row (by omega) (by omega)
          rw [show raOf us (rO us row us.length) row = rA us row 1 (rO us row us.length) by unfold raOf raOk; rw [hu, rO_ok hu row, hw]; rfl] at this
          exact this
      obtain ⟨A1, A2, A3, A4⟩ := ROW 0 (.inl rfl)
      obtain ⟨B1, B2, B3, B4⟩ := ROW 1 (.inr rfl)
      have l0 := rO_len us 0 us.length
      have l1 := rO_len us 1 us.length
      clear ROW
      have tk0 : List.take us.length ((rO us 0 us.length).map DV.i) = (rO us 0 us.length).map .i := List.take_of_length_le (by simp [l0])
      have tk1 : List.take us.length ((rO us 1 us.length).map DV.i) = (rO us 1 us.length).map .i := List.take_of_length_le (by simp [l1])
      generalize rA us 0 1 (rO us 0 us.length) = r0 at *
      generalize rA us 1 1 (rO us 1 us.length) = r1 at *
      generalize rO us 0 us.length = O0 at *
      generalize rO us 1 us.length = O1 at *
      generalize rowT us.length 0 = T0 at *
      generalize rowT us.length 1 = T1 at *
      generalize bA us t = n at *
      generalize (boF us t).2 = b at *
      have lv : (us.map other).length = us.length := by simp
      have lt : (t.map dT).length = t.length := by simp
      simp only [if_true] at D5
      generalize us.map other = vs at *
      generalize t.map dT = td at *
      have w1 : wr (1 : Int) = 1 := wr_id (by omega) (by omega)
      have w2 : wr (2 : Int) = 2 := wr_id (by omega) (by omega)
      have LP : ex lf F_laws_FnBestAverage_W0 ⟨[(3, .own 7185 us.length 0 us.length), (4, .own 7186 t.length 0 t.length), (5, .i n), (7, .i b), (8, .i 0)], [(7185, us.map e2), (7186, t.map e2)]⟩ = some (.exit 0, ⟨[(3, .own 7185 us.length 0 us.length), (4, .own 7186 t.length 0 t.length), (5, .i n), (7, .i b), (8, .i 2)], [(7185, us.map e2), (7186, t.map e2)]⟩) := by
        have S0 : ex lf F_laws_FnBestAverage_L0 ⟨[(3, .own 7185 us.length 0 us.length), (4, .own 7186 t.length 0 t.length), (5, .i n), (7, .i b), (8, .i 0)], [(7185, us.map e2), (7186, t.map e2)]⟩ = some (.normal, ⟨[(3, .own 7185 us.length 0 us.length), (4, .own 7186 t.length 0 t.length), (5, .i n), (7, .i b), (8, .i 1)], [(7185, us.map e2), (7186, t.map e2)]⟩) := by
          simp [F_laws_FnBestAverage_L0, A1, A2, A3, A4, w1, l0, tk0]
        have S1 : ex lf F_laws_FnBestAverage_L0 ⟨[(3, .own 7185 us.length 0 us.length), (4, .own 7186 t.length 0 t.length), (5, .i n), (7, .i b), (8, .i 1)], [(7185, us.map e2), (7186, t.map e2)]⟩ = some (.normal, ⟨[(3, .own 7185 us.length 0 us.length), (4, .own 7186 t.length 0 t.length), (5, .i n), (7, .i b), (8, .i 2)], [(7185, us.map e2), (7186, t.map e2)]⟩) := by
          simp [F_laws_FnBestAverage_L0, B1, B2, B3, B4, w2, l1, tk1]
        rw [w_laws_FnBestAverage_0, S0]
        simp only
        rw [w_laws_FnBestAverage_0, S1]
        simp only
        rw [w_laws_FnBestAverage_0]
        simp [F_laws_FnBestAverage_L0]
      simp (config := { maxSteps := 2000000 }) [F_laws_FnBestAverage, hl, d, D1, D2, D3, D4, D5, D6, n0', le, LP]
end
section
attribute [-simp] DV.cells
attribute [local simp] sliceD cells_st cells_sl cells_i cells_y cells_b cells_s cells_w
attribute [local simp] lend_e3 adopt_e3 new_e3 al_e3 lt_e3
def drT (c q : Int) (r : List T) (v : Int) : List T := (c + v, q) :: r
theorem dr_wk (c q : Int) (r : List T) (v : Int) (ks : List Int) : wk (drT c q r v) ks = wk ((c, q) :: r) ks := by
  cases ks <;> rfl
theorem dr_cA (c q : Int) (r : List T) (v : Int) (j : Nat) : cA (drT c q r v) j = cA ((c, q) :: r) j + if j = 0 then v else 0 := by
  cases j with
  | zero => simp [cA, drT]
  | succ j => simp [cA, drT]
theorem dr_ok {c q : Int} {r : List T} (h : tsOk ((c, q) :: r) = true) {v : Int} (hv : 0 ≤ v) : tsOk (drT c q r v) = decide (c + v ≤ 9) := by
  have h' := tsOk_iff.1 h
  simp only [List.all_cons, Bool.and_eq_true] at h'
  have t0 := tOk_iff.1 h'.2.1
  simp only at t0
  by_cases e : c + v ≤ 9
  · rw [decide_eq_true e]
    refine tsOk_iff.2 ⟨h'.1, ?_⟩
    unfold drT
    simp only [List.all_cons, Bool.and_eq_true]
    exact ⟨tOk_iff.2 (by simp only; omega), h'.2.2⟩
  · rw [decide_eq_false e]
    cases h2 : tsOk (drT c q r v) with
    | false => rfl
    | true =>
      have h3 := tsOk_iff.1 h2
      unfold drT at h3
      simp only [List.all_cons, Bool.and_eq_true] at h3
      have := tOk_iff.1 h3.2.1
      simp only at this
      omega
set_option maxHeartbeats 8000000 in
theorem law_FnDearer (x : List Nat) (_ : x.length ≤ Go.maxLen) (hb : ∀ y ∈ x, y < 256) : call lf n_laws_FnDearer [bys x] = some (.b true, []) := by
  show call lf n_laws_FnDearer [.sl 0 (x.map .y)] = _
  rw [call_k lf n_laws_FnDearer _ (F := F_laws_FnDearer) rfl rfl]
  by_cases hl : 1048576 < (x.length : Int)
  · simp (config := { maxSteps := 2000000 }) [F_laws_FnDearer, hl]
  · obtain ⟨us, t, u1, t1, d⟩ := c_DrawBestAverage hb (by omega)
    have D0 := c_impl_BestAverage us t (by omega) (by omega)
    cases h : tsOk us && tmOk us.length t with
    | false =>
      have e : baOf us t = -1 := by unfold baOf; rw [h]; rfl
      rw [e] at D0
      simp (config := { maxSteps := 2000000 }) [F_laws_FnDearer, hl, d, D0, c_alive]
    | true =>
      have e0 : baOf us t = bA us t := by unfold baOf; rw [h]; rfl
      rw [Bool.and_eq_true] at h
      obtain ⟨hu, ht⟩ := h
      have hu' := tsOk_iff.1 hu
      rw [e0] at D0
      have PW := c_power us.length (by omega) (by omega)
      rw [Int.toNat_natCast] at PW
      cases us with
      | nil => simp at hu'
      | cons u r =>
        obtain ⟨c, q⟩ := u
        have ll : ∀ v, (drT c q r v).length = ((c, q) :: r).length := fun v => rfl
        have D1 := c_impl_BestAverage (drT c q r 1) t (by rw [ll]; omega) (by omega)
        have D2 := c_impl_BestAverage (drT c q r 2) t (by rw [ll]; omega) (by omega)
        have b0 := (bX_ok (us := (c, q) :: r) (t := t) hu'.2)
        have n0 := tA_nn (t := t) hu'.2 (bX ((c, q) :: r) t) (non ((c, q) :: r).length)
        rw [b0.2] at n0
        have up := bA_le hu'.2 b0.1
        have ub := tA_le hu b0.1
        rw [b0.2] at ub
        have cb := (cost_bound hu'.2)
        have p6' := p6 (n := ((c, q) :: r).length) (by omega)
        have m1 : 6 ^ ((c, q) :: r).length * cost ((c, q) :: r) ≤ 7776 * 45 := Int.mul_le_mul (by omega) (by omega) (by omega) (by omega)
        have c0 : 1 ≤ c ∧ c ≤ 9 := by
          have := hu'.2
          simp only [List.all_cons, Bool.and_eq_true] at this
          have := tOk_iff.1 this.1
          simp only at this
          omega
        have DE := fun (h1 : tsOk (drT c q r 1) = true) => bA_dear (us := (c, q) :: r) (vs := drT c q r 1) (ws := drT c q r 2) (t := t) (k := 0) hu'.2 (tsOk_iff.1 h1).2 rfl (dr_wk c q r 1) (dr_cA c q r 1)
        have e1 : baOf (drT c q r 1) t = if c + 1 ≤ 9 then bA (drT c q r 1) t else -1 := by
          unfold baOf
          rw [dr_ok hu (by omega), ll, ht, Bool.and_true]
          by_cases q : c + 1 ≤ 9
          · rw [if_pos q, decide_eq_true q]; rfl
          · rw [if_neg q, decide_eq_false q]; rfl
        have e2 : baOf (drT c q r 2) t = if c + 2 ≤ 9 then bA (drT c q r 2) t else -1 := by
          unfold baOf
          rw [dr_ok hu (by omega), ll, ht, Bool.and_true]
          by_cases q : c + 2 ≤ 9
          · rw [if_pos q, decide_eq_true q]; rfl
          · rw [if_neg q, decide_eq_false q]; rfl
        have key : (baOf (drT c q r 1) t < 0 ∨ (baOf (drT c q r 1) t ≥ bA ((c, q) :: r) t ∧ baOf (drT c q r 1) t ≤ bA ((c, q) :: r) t + 6 ^ ((c, q) :: r).length)) ∧ (baOf (drT c q r 1) t < 0 ∨ baOf (drT c q r 2) t < 0 ∨ baOf (drT c q r 2) t - baOf (drT c q r 1) t ≤ baOf (drT c q r 1) t - bA ((c, q) :: r) t) ∧ (-1 ≤ baOf (drT c q r 1) t ∧ baOf (drT c q r 1) t ≤ 1000000) ∧ (-1 ≤ baOf (drT c q r 2) t ∧ baOf (drT c q r 2) t ≤ 1000000) := by
          have nn2 : ∀ v, (drT c q r v).all tOk = true → 0 ≤ bA (drT c q r v) t := fun v hv => by
            obtain ⟨o, e⟩ := bX_ok (t := t) hv
            rw [← e]
            exact tA_nn (t := t) hv _ _
          by_cases q1 : c + 1 ≤ 9
          · rw [if_pos q1] at e1
            have k1 : tsOk (drT c q r 1) = true := by rw [dr_ok hu (by omega), decide_eq_true q1]
            obtain ⟨⟨g1, g2⟩, g3⟩ := DE k1
            have nn := nn2 1 (tsOk_iff.1 k1).2
            by_cases q2 : c + 2 ≤ 9
            · rw [if_pos q2] at e2
              have k2 : tsOk (drT c q r 2) = true := by rw [dr_ok hu (by omega), decide_eq_true q2]
              have g3 := g3 (tsOk_iff.1 k2).2 rfl (dr_wk c q r 2) (dr_cA c q r 2)
              have nn' := nn2 2 (tsOk_iff.1 k2).2
              rw [e1, e2]
              refine ⟨.inr ⟨by omega, g2⟩, .inr (.inr g3), by omega, by omega⟩
            · rw [if_neg q2] at e2
              rw [e1, e2]
              refine ⟨.inr ⟨by omega, g2⟩, .inr (.inl (by omega)), by omega, by omega⟩
          · rw [if_neg q1] at e1
            have q2 : ¬ c + 2 ≤ 9 := by omega
            rw [if_neg q2] at e2
            rw [e1, e2]
            refine ⟨.inl (by omega), .inl (by omega), by omega, by omega⟩
        clear DE e1 e2
        have w1 : wr (c + 1) = c + 1 := wr_id (by omega) (by omega)
        have w2 : wr (c + 2) = c + 2 := wr_id (by omega) (by omega)
        generalize baOf (drT c q r 1) t = m at *
        generalize baOf (drT c q r 2) t = o at *
        generalize bA ((c, q) :: r) t = n at *
        have ml : (drT c q r 1).map e2 = DV.st [.i (c + 1), .i q] :: r.map e2 := rfl
        have ml2 : (drT c q r 2).map e2 = DV.st [.i (c + 2), .i q] :: r.map e2 := rfl
        have ml0 : ((c, q) :: r).map e2 = DV.st [.i c, .i q] :: r.map e2 := rfl
        rw [ml] at D1
        rw [ml2] at D2
        rw [ml0] at D0 d
        have ul : ((c, q) :: r).length = r.length + 1 := rfl
        rw [ul, show ((r.length + 1 : Nat) : Int) = (r.length : Int) + 1 by omega] at PW
        have lr : r.length + 1 ≤ bound := by
          rw [ul] at u1
          unfold bound; omega
        have cE : ∀ e ∈ r.map e2, e.cells.length = 2 := fun e he => by
          obtain ⟨x, _, rfl⟩ := List.mem_map.1 he
          rfl
        have lE := lend_e2 r
        have aE := fun o => adopt_e2 o r
        have nE := new_e2 r
        have lm : (r.map e2).length = r.length := by simp
        have tk : List.take r.length (r.map e2) = r.map e2 := List.take_of_length_le (by simp)
        rw [ul] at key p6' ub m1
        generalize (6 : Int) ^ (r.length + 1) = K at *
        have m1' : n ≤ 400000 := by omega
        have wK : wr (n + K) = n + K := wr_id (by omega) (by omega)
        have wa : wr (o - m) = o - m := wr_id (by omega) (by omega)
        have wb : wr (m - n) = m - n := wr_id (by omega) (by omega)
        have n0' : ¬ n < 0 := by omega
        generalize r.map e2 = R at *
        obtain ⟨key1, key2, _, _⟩ := key
        by_cases hm : m < 0
        · simp (config := { maxSteps := 2000000 }) [F_laws_FnDearer, hl, d, D0, D1, D2, c_alive, n0', hm, w1, w2, if_pos cE, lE, aE, nE, lm, tk, lr, PW]
        · have k1 : m ≥ n ∧ m ≤ n + K := by rcases key1 with h | h; exact absurd h hm; exact h
          have k1a : n ≤ m := k1.1
          have k1b := k1.2
          by_cases ho : o < 0
          · simp (config := { maxSteps := 2000000 }) [F_laws_FnDearer, hl, d, D0, D1, D2, c_alive, n0', hm, ho, k1a, k1b, wK, w1, w2, if_pos cE, lE, aE, nE, lm, tk, lr, PW]
          · have k2 : o - m ≤ m - n := by rcases key2 with h | h | h; exact absurd h hm; exact absurd h ho; exact h
            simp (config := { maxSteps := 2000000 }) [F_laws_FnDearer, hl, d, D0, D1, D2, c_alive, n0', hm, ho, k1a, k1b, k2, wK, wa, wb, w1, w2, if_pos cE, lE, aE, nE, lm, tk, lr, PW]
end
end Zz
