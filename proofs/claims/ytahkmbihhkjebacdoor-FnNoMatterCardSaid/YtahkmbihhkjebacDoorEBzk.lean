/- What the functions answer, as equations: EB. No conditions. -/
import Derived.Test.YtahkmbihhkjebacDoorEAzk
set_option linter.unusedSectionVars false
set_option linter.unusedVariables false
set_option linter.unusedSimpArgs false
namespace Zz
open Go.Lg Md
set_option linter.unusedSimpArgs false
set_option linter.unusedVariables false
attribute [local simp] tm_mv tm_newnil tm_pick tm_bin tm_eqb tm_eqs tm_un tm_len tm_lens tm_chk tm_fld tm_fldv tm_idxa tm_idx tm_load tm_store tm_slice tm_slices tm_make tm_alloc tm_box tm_build tm_app tm_conv tm_ext tm_call tm_calld tm_mkfn tm_mm tm_idxp tm_eqn tm_callg tm_callm tm_bslice0 tm_bslice1 tm_bslice2 tm_bslice nm_def nh_nil nh_cons nxM_some nxM_none sc_i sc_y sc_b sc_s sc_w sc_q sa_bslice sa_app nc_own nc_nil sa_call sa_alloc sa_build sa_callm rm_nil rm_gen bq_mul bq_eql ia_mv ia_newnil ia_pick ia_bin ia_eqb ia_eqs ia_un ia_len ia_lens ia_chk ia_fld ia_fldv ia_idxa ia_idx ia_load ia_store ia_slice ia_slices ia_make ia_alloc ia_box ia_build ia_bslice ia_app ia_b2i ia_i2b ia_i2i ia_same ia_b2s ia_s2b ia_ext ia_mm ia_idxp ia_calld ia_mkfn ia_i2r ia_r2s ia_call pt_nil pt_cons mi_nil mi_cons md_bslice md_mv md_newnil md_pick md_bin md_eqb md_un md_len md_lens md_fld md_fldv md_idxa md_idx md_load md_store md_slice md_slices md_make md_alloc md_box md_build md_app md_conv md_ext md_call md_calld md_callg md_mkfn md_mm md_idxp md_eqn md_eqs md_chk tg_bslice tg_mv tg_newnil tg_pick tg_bin tg_eqb tg_un tg_len tg_lens tg_fld tg_fldv tg_idxa tg_idx tg_load tg_store tg_slice tg_slices tg_make tg_alloc tg_box tg_build tg_app tg_conv tg_ext tg_call tg_calld tg_callg tg_mkfn tg_mm tg_idxp tg_eqn tg_eqs tg_chk rp_eq ro_eq ifP_t ifP_f np_def ng1_nil ng2_nil ng_gate ng_gen tgA_t tgA_0 tgA_1 tgA_2 aC_nil aC_c aC_t nxP_some nxP_none rq_nil rq_gen rq_gate nxR_some nxR_none ru_nil ru_gen ru_gate pl_none pl_some gt_nil gt_t gt_c di_some di_none an_nil an_cons nxG_some nxG_none rg_nil rg_gen rg_gate oldO_some oa_nil oa_i oa_y oa_b oa_s oa_st oa_sl oa_own oa_oad oa_nl al_nil al_cons al_i al_y al_b al_s al_st al_sl nxF_some nxF_none rf_nil rf_gen rf_gate hk_newnil hk_make hk_alloc hk_box hk_build hk_bslice hk_call hk_store hk_app hk_appn em_cel mm_cel ok_cel ov_cel so_cel il_cel oi_cel oj_cel ol_cel nm_cel hk_appc ef_bslice5 ef_app_cel ks_shut shu_own shc_none shc_cel cl_nil cl_cons ai_nil ai_cons il_i il_y il_b il_s il_st il_sl il_own il_adr il_oad il_ref il_fr il_tup il_nil il_np il_und il_dead ol_adr ol_b ol_dead ol_e ol_fn ol_fr ol_i ol_nil ol_np ol_oad ol_own ol_q ol_r ol_ref ol_s ol_sl ol_st ol_tup ol_und ol_w ol_y oj_e oj_i oj_y oj_b oj_s oj_st oj_sl oj_own oj_adr oj_oad oj_ref oj_fr oj_tup oj_nil oj_np oj_und oj_dead oj_w oj_q oj_r oj_fn oi_e oi_i oi_y oi_b oi_s oi_st oi_sl oi_own oi_adr oi_oad oi_ref oi_fr oi_tup oi_nil oi_np oi_und oi_dead as_nil as_cons ao_nil ao_cons av_i av_y av_b av_s av_st av_sl av_own av_adr av_oad av_ref av_fr av_tup av_nil av_np av_und av_dead pro_cons ghK_some ks_promote ks_freeze frz_own ks_rename ren_own dropO adoptP newP wholeP cutP allOldL ex_skip ex_ret ex_exit ks_region ks_seq ks_cond ks_block seqK_n seqK_e seqK_r regK_some condK_t condK_f blkK_n blkK_r blkK_e endK_n endK_r rr_false rr_true rd_free mo_nil mo_cons drK_some drK_none nxW_some nxW_none rw_nil rw_gen rw_gate ak_newnil ak_make ak_alloc ak_box ak_build ak_bslice ak_call ak_store ak_app iw_mm iw_eqn iw_idxp ef_callg cgK_some gv_e gv_own gv_i gv_sl gv_st gv_b gv_nil gvK_some gvO_some iw_callg ia_callg ak_callg hk_callg is_mv is_newnil is_pick is_bin is_eqb is_eqs is_un is_len is_lens is_chk is_fld is_fldv is_idxa is_idx is_load is_slice is_slices is_make is_alloc is_box is_build is_bslice is_app is_conv is_ext is_call is_calld is_callg is_mkfn is_mm is_idxp is_eqn is_store rt_nil rt_gen rt_gate nxT_some nxT_none ef_eqn_nil ef_eqn_sl ef_eqn_own ia_eqn ef_mmx ef_mmn ef_idxp nxD_some nxD_none ov_i ov_y ov_b ov_s ov_st ov_sl ov_own ov_oad ov_adr ov_nil ov_np ov_und ov_dead ov_tup oldN_some oldN_nil oldN_none so_none so_i so_y so_b so_s so_st so_sl so_adr so_nil so_np so_und so_dead anyM_nil anyM_t anyM_c so_own so_oad rd_nil rd_gen rd_mv rd_gate iw_mv iw_newnil iw_pick iw_bin iw_eqb iw_eqs iw_un iw_len iw_lens iw_chk iw_fld iw_fldv iw_idxa iw_idx iw_load iw_store iw_slice iw_slices iw_make iw_alloc iw_box iw_build iw_bslice iw_app iw_b2i iw_i2b iw_i2i iw_same iw_b2s iw_s2b iw_ext iw_call nm_i nm_y nm_b nm_s nm_st nm_sl nm_own nm_oad nm_adr nm_nil nm_np nm_und nm_dead nm_tup rl_nil rl_gate rl_mv rl_gen opv_t opv_c nx_some nx_none gate_tt gate_tf gate_ft gate_ff gate_u fr_ap em_nil em_i em_y em_b em_s em_st em_sl em_own em_adr em_oad em_ref em_nl em_np em_und em_dead em_tup0 em_tup_i em_tup_b em_tup_s em_tup_sl em_tup_st em_tup_np em_tup_own em_tup_oad mm_i mm_y mm_b mm_s mm_st mm_sl mm_own mm_oad mm_adr mm_nil mm_np mm_und mm_dead ef_mv ef_newnil ef_pickt ef_pickf ef_bin ef_eqb ef_eqs ef_un ef_lens ef_len_sl ef_len_own ef_len_nil ef_chk_adr ef_chk_oad ef_fld_adr ef_fld_oad ef_fldv idxR_some ef_idxa_sl ef_idxa_own ef_idx ef_load_adr_st ef_load_adr_i ef_load_adr_y ef_load_adr_b ef_load_adr_s ef_load_adr_sl atN_nil atN_zero atN_succ ef_load_oad ef_store ef_slice ef_slices ef_make ef_alloc ef_box ef_build ef_bslice ef_app_own ef_app_nil ef_b2i ef_i2b ef_i2i ef_same ef_ext ret1 ret2_some calL_some ef_call retC_i retC_y retC_b retC_s retC_st retC_sl retC_np retC_fr retC_ref retC_tup rk_nil rk_i rk_y rk_b rk_s rk_st rk_sl rk_own rk_oad rk_nl ok_nil ok_i ok_y ok_b ok_s ok_st ok_sl ok_own ok_oad ok_nl lo_nil lo_i lo_y lo_b lo_s lo_st lo_sl lo_own lo_oad lo_nl pr_nil pr_i pr_y pr_b pr_s pr_st pr_sl pr_own pr_nl pr_oad nr_i nr_y nr_b nr_s nr_st nr_sl nr_fr nr_np nr_tup ng_i ng_b ng_s ng_fr ng_nil resV effP_eff binD bi_add bi_sub bi_mul bi_quo bi_rem bi_eql bi_neq bi_lss bi_leq bi_gtr bi_geq bi_shl bi_shr bi_and bi_or bi_xor bi_andNot binY binS unD look put putD LS.get LS.drop killE sweep lookO putO dropO enter leave giveBackL giveBack outs lendArgs lendArg newOuts takeIn takeInL lendL DV.lend adoptL DV.adopt elems apartKs part DV.cells unpart settle settleL over mkId szId fillP fillE tk_e2 tk_i tk_y lt_e2 lt_i lt_y lend_rep al_e2 al_is al_ys al_rep al_app lend_app adopt_app new_app lend_e2 lend_i lend_y adopt_e2 adopt_i adopt_y new_e2 new_i allNewL DV.allNew bounds sliceD sliceS em_w em_q em_r em_fn em_tup_w em_tup_q em_tup_r mm_w mm_q mm_r mm_fn ef_load_adr_w ef_load_adr_q ef_load_adr_r retC_w retC_q retC_r rk_w rk_q rk_r rk_fn ok_w ok_q ok_r ok_fn lo_w lo_q lo_r lo_fn pr_w pr_q pr_r pr_fn nr_w nr_q nr_r ng_w ng_q ng_r oa_w oa_q oa_r oa_fn al_w al_q al_r al_fn ov_w ov_q ov_r ov_fn so_w so_q so_r so_fn il_w il_q il_r il_fn oi_w oi_q oi_r oi_fn av_w av_q av_r av_fn nm_w nm_q nm_r nm_fn ef_i2r ef_r2s ef_mkfn ef_mkbd ef_idxp_adr ef_idxp_q ef_calld_nil ef_calld_adr ef_calld_bd DV.capB capsOk DV.cell List.all_cons List.all_nil rk_own_t lo_own_t lk_f lk_t pr_own_t mutB ak_calld hk_calld iw_calld iw_mkfn iw_i2r iw_r2s bw_and bw_or bw_xor bw_andNot bw_eql bw_neq sw_shl sw_shr sq_shl gEnv_nil rk_adr ok_adr lo_adr pr_adr oa_adr capL capArg DV.cap ak_mkfn hk_mkfn hk_mkbd ef_callm gf_ap ga_nil ga_cons tgv_own gk_e gk_giv gk_i gk_y gk_b gk_s gk_w gk_q gk_r gk_fn gk_st gk_sl gk_own gk_oad gk_adr gk_nl gk_np rk_giv ok_giv lo_giv pr_giv oa_giv iw_callm hk_callm ak_callm is_callm ia_callm tg_callm md_callm ef_i2q ef_q2i ef_q2q iw_i2q iw_q2i iw_q2q ia_i2q ia_q2i ia_q2q bq_and bq_add bq_shr sq_shr tgv_nil gk_ref rk_ref ok_ref lo_ref pr_ref oa_ref retC_fn nr_fn ef_load_adr_fn ks_close cls_oad
attribute [local congr] nxM_congr ifP_congr nxP_congr nxR_congr nxT_congr nxG_congr nxF_congr ghK_congr gate_congr nx_congr nxD_congr runL_congr runD_congr eff_congr calL_congr ret2_congr seqK_congr regK_congr condK_congr endK_congr drK_congr nxW_congr
attribute [local simp ↓] nxM_some rm_nil rm_gen nxT_some rt_nil rt_gen rt_gate nxP_some rq_nil rq_gen rq_gate nxR_some ru_nil ru_gen ru_gate nxG_some rg_nil rg_gen rg_gate nxF_some rf_nil rf_gen rf_gate ks_promote ks_freeze frz_own ks_rename ghK_some gate_tt gate_tf gate_ft gate_ff gate_u nx_some nxD_some rl_nil rl_mv rl_gen rl_gate rd_nil rd_mv rd_gen rd_gate rd_free rr_false rr_true drK_some drK_none nxW_some rw_nil rw_gen rw_gate ks_region ks_seq ks_cond ks_block seqK_n seqK_e seqK_r regK_some condK_t condK_f blkK_n blkK_r endK_n endK_r calL_some ret2_some opv_t opv_c
section
attribute [-simp] DV.cells
attribute [local simp] sliceD cells_st cells_sl cells_i cells_y cells_b cells_s cells_w
attribute [local simp] lend_e3 adopt_e3 new_e3 al_e3 lt_e3
def pv (m a : Int) (w v : BitVec 32) : DV := .st [.i m, .i a, .w w, .w v]
/-- the point at which so much is known -/
def pD (m : Nat) (t : List T) (ks : List Int) : DV := pv m (aN ks) (lfW ks) (tsW t)
/-- 64 bits: how many are ones -/
theorem c_OnesCount64 {n : Nat} (h : n < 32) : call lf n_math_bits_OnesCount64 [.q n] = some (.i (pc n), []) := by
  rw [call_k lf n_math_bits_OnesCount64 _ (F := F_math_bits_OnesCount64) rfl rfl]
  have c : n = 0 ∨ n = 1 ∨ n = 2 ∨ n = 3 ∨ n = 4 ∨ n = 5 ∨ n = 6 ∨ n = 7 ∨ n = 8 ∨ n = 9 ∨ n = 10 ∨ n = 11 ∨ n = 12 ∨ n = 13 ∨ n = 14 ∨ n = 15 ∨ n = 16 ∨ n = 17 ∨ n = 18 ∨ n = 19 ∨ n = 20 ∨ n = 21 ∨ n = 22 ∨ n = 23 ∨ n = 24 ∨ n = 25 ∨ n = 26 ∨ n = 27 ∨ n = 28 ∨ n = 29 ∨ n = 30 ∨ n = 31 := by omega
  rcases c with rfl | rfl | rfl | rfl | rfl | rfl | rfl | rfl | rfl | rfl | rfl | rfl | rfl | rfl | rfl | rfl | rfl | rfl | rfl | rfl | rfl | rfl | rfl | rfl | rfl | rfl | rfl | rfl | rfl | rfl | rfl | rfl <;>
    simp [F_math_bits_OnesCount64, pc, andI, wr, Go.IntKind.wrap, Go.IntKind.signed, Go.IntKind.bits]
theorem c_OnesCount {n : Nat} (h : n < 32) : call lf n_math_bits_OnesCount [.q n] = some (.i (pc n), []) := by
  have C := c_OnesCount64 h
  rw [call_k lf n_math_bits_OnesCount _ (F := F_math_bits_OnesCount) rfl rfl]
  simp [F_math_bits_OnesCount, C]
theorem c_impl_sizeOf {n : Nat} (h : n < 32) : call lf n_impl_sizeOf [.i n] = some (.i (pc n), []) := by
  have C := c_OnesCount h
  have e : ((n : Int) % 18446744073709551616).toNat = n := by omega
  rw [call_k lf n_impl_sizeOf _ (F := F_impl_sizeOf) rfl rfl]
  simp [F_impl_sizeOf, C, e]
theorem c_howMany {m : Nat} {t : List T} {ks : List Int} (hl : ks.length ≤ 5) : call lf n_impl_point_howManyAsked [pD m t ks] = some (.i (kn ks), []) := by
  have l := aN_lt ks
  have p : 2 ^ ks.length ≤ 2 ^ 5 := Nat.pow_le_pow_right (by omega) hl
  have C := c_impl_sizeOf (n := aN ks) (by omega)
  rw [pc_kn hl] at C
  unfold pD pv
  rw [call_k lf n_impl_point_howManyAsked _ (F := F_impl_point_howManyAsked) rfl rfl]
  generalize aN ks = a at *
  simp [F_impl_point_howManyAsked, C]
theorem c_isForced {m : Nat} {t : List T} {ks : List Int} (h1 : tmOk m t = true) (hl : ks.length = m) (hk : ks.all kOk = true) : call lf n_impl_point_isForced [pD m t ks] = some (.b (fcd m t ks), []) := by
  have C := c_impl_valueAmong (tsW t) (lfW ks)
  rw [vaW_fcd h1 hl hk] at C
  unfold pD pv
  rw [call_k lf n_impl_point_isForced _ (F := F_impl_point_isForced) rfl rfl]
  unfold fcd
  simp [F_impl_point_isForced, C]
/-- may it be asked? -/
def caK (m : Nat) (ks : List Int) (a : Int) : Bool := decide (0 ≤ a ∧ a < m) && decide (ks[a.toNat]? = some (-1))
theorem c_canAsk {m : Nat} {t : List T} {ks : List Int} (hm : m ≤ 5) (hl : ks.length = m) (a : Int) : call lf n_impl_point_canAsk [pD m t ks, .i a] = some (.b (caK m ks a), []) := by
  have W := c_impl_isWithin a 0 ((m : Int) - 1)
  have w1 : wr ((m : Int) - 1) = (m : Int) - 1 := wr_id (by omega) (by omega)
  unfold pD pv
  rw [call_k lf n_impl_point_canAsk _ (F := F_impl_point_canAsk) rfl rfl]
  unfold caK
  by_cases h : 0 ≤ a ∧ a < m
  · obtain ⟨k, rfl⟩ := Int.eq_ofNat_of_zero_le h.1
    have e : decide (0 ≤ (k : Int) ∧ (k : Int) ≤ (m : Int) - 1) = true := decide_eq_true ⟨h.1, by omega⟩
    have H := c_impl_hasTest (aN ks) k (by omega)
    have hb := aN_bit (ks := ks) (i := k) (by omega)
    rw [hb] at H
    rw [e] at W
    rw [decide_eq_true h, Int.toNat_natCast]
    generalize aN ks = x at *
    generalize lfW ks = y at *
    simp [F_impl_point_canAsk, w1, W, H]
  · have e : decide (0 ≤ a ∧ a ≤ (m : Int) - 1) = false := decide_eq_false (by omega)
    rw [e] at W
    rw [decide_eq_false h]
    simp [F_impl_point_canAsk, w1, W]
/-- nowhere nothing may be asked -/
theorem c_canAsk0 (a : Int) : call lf n_impl_point_canAsk [pv 0 0 (0#32) (0#32), .i a] = some (.b false, []) := by
  have W := c_impl_isWithin a 0 (-1)
  have e : decide (0 ≤ a ∧ a ≤ -1) = false := decide_eq_false (by omega)
  rw [e] at W
  have w1 : wr (-1) = -1 := wr_id (by omega) (by omega)
  unfold pv
  rw [call_k lf n_impl_point_canAsk _ (F := F_impl_point_canAsk) rfl rfl]
  simp [F_impl_point_canAsk, w1, W]
theorem c_answered {m : Nat} {t : List T} {ks : List Int} {k : Nat} (b : Bool) (hl : ks.length ≤ 5) (hk : ks.all kOk = true) (h : ks[k]? = some (-1)) : call lf n_impl_point_answered [pD m t ks, .i k, .i (bI b)] = some (pD m t (ks.set k (bI b)), []) := by
  have hlt := ks_ex h
  have C := c_impl_statesSaying (k := k) (by omega) (bI b)
  have e1 : syI k (bI b) = syW k b := by cases b <;> rfl
  rw [e1] at C
  have sh := shl1 (k := (k : Int)) (by omega) (by omega)
  have nk : ¬ (k : Int) < 0 := by omega
  have l := aN_lt ks
  have p : 2 ^ ks.length ≤ 2 ^ 5 := Nat.pow_le_pow_right (by omega) hl
  have p2 : 2 ^ k ≤ 2 ^ 5 := Nat.pow_le_pow_right (by omega) (by omega)
  have o := orI_nat (a := aN ks) (b := 2 ^ k) (by omega) (by omega)
  rw [← aN_set (b := bI b) (by cases b <;> simp [bI]) h] at o
  have e2 := lfW_set b hk hl h
  unfold pD pv
  rw [call_k lf n_impl_point_answered _ (F := F_impl_point_answered) rfl rfl]
  rw [e2]
  have o' : orI (aN ks) (2 ^ k) = aN (ks.set k (bI b)) := by
    have : ((2 ^ k : Nat) : Int) = 2 ^ k := by simp
    rw [← this]; exact o
  rw [Int.toNat_natCast] at sh
  generalize aN (ks.set k (bI b)) = x at *
  generalize aN ks = y at *
  generalize lfW ks = z at *
  generalize (2 : Int) ^ k = w at *
  simp [F_impl_point_answered, C, sh, nk, o']
theorem c_startOf {m : Nat} {t : List T} (hm : m ≤ 5) (h : tmOk m t = true) : call lf n_impl_startOf [.i m, .sl 0 (t.map e2)] = some (pD m t (non m), []) := by
  have C := c_impl_trueStates h
  unfold pD pv
  rw [aN_non, lfW_non m hm]
  rw [call_k lf n_impl_startOf _ (F := F_impl_startOf) rfl rfl]
  simp [F_impl_startOf, C]
theorem c_firstOf (P : List C3) (h : (P.length : Int) < 1099511627776) : call lf n_impl_firstOf [.sl 0 (P.map e3)] = some (.i (rot P), []) := by
  rw [call_k lf n_impl_firstOf _ (F := F_impl_firstOf) rfl rfl]
  unfold rot
  cases P with
  | nil => simp [F_impl_firstOf]
  | cons c r =>
    have e : (((r.length : Int) + 1) == 0) = false := beq_eq_false_iff_ne.2 (by omega)
    simp [F_impl_firstOf, e]
end
section
attribute [-simp] DV.cells
attribute [local simp] sliceD cells_st cells_sl cells_i cells_y cells_b cells_s cells_w
attribute [local simp] lend_e3 adopt_e3 new_e3 al_e3 lt_e3
def e4 (m : Nat) (t : List T) : Option (List Int) → DV
  | some ks => pD m t ks
  | none => pv 0 0 (0#32) (0#32)
theorem e4_st (m : Nat) (t : List T) (o : Option (List Int)) : ∃ (a b : Int) (w v : BitVec 32), e4 m t o = .st [.i a, .i b, .w w, .w v] := by
  cases o with
  | none => exact ⟨_, _, _, _, rfl⟩
  | some ks => exact ⟨_, _, _, _, rfl⟩
theorem e4_lend (m : Nat) (t : List T) (o : Option (List Int)) : (e4 m t o).lend = e4 m t o := by
  obtain ⟨a, b, w, v, e⟩ := e4_st m t o
  rw [e]; rfl
theorem e4_adopt (m : Nat) (t : List T) (o : Option (List Int)) (x : Bool) : (e4 m t o).adopt x = e4 m t o := by
  obtain ⟨a, b, w, v, e⟩ := e4_st m t o
  rw [e]; rfl
theorem e4_cells (m : Nat) (t : List T) (o : Option (List Int)) : (e4 m t o).cells.length = 4 := by
  obtain ⟨a, b, w, v, e⟩ := e4_st m t o
  rw [e]; rfl
theorem lend_e4 (m : Nat) (t : List T) (P : Pts) : lendL (P.map (e4 m t)) = P.map (e4 m t) := by
  rw [lendL_map, List.map_map]
  exact List.map_congr_left fun o _ => e4_lend m t o
theorem adopt_e4 (m : Nat) (t : List T) (x : Bool) (P : Pts) : adoptL x (P.map (e4 m t)) = P.map (e4 m t) := by
  rw [adoptL_map, List.map_map]
  exact List.map_congr_left fun o _ => e4_adopt m t o x
theorem new_e4 (m : Nat) (t : List T) (P : Pts) : allNewL (P.map (e4 m t)) = true := by
  rw [allNewL_all, List.all_map, List.all_eq_true]
  intro o _
  obtain ⟨a, b, w, v, e⟩ := e4_st m t o
  show (e4 m t o).allNew = true
  rw [e]; rfl
theorem wid_e4 (m : Nat) (t : List T) (P : Pts) : ∀ e ∈ P.map (e4 m t), e.cells.length = 4 := fun e he => by
  obtain ⟨o, _, rfl⟩ := List.mem_map.1 he
  exact e4_cells m t o
theorem atN_e4 {m : Nat} {t : List T} {P : Pts} {p : Nat} {o : Option (List Int)} (h : P[p]? = some o) : atN (P.map (e4 m t)) p = some (e4 m t o) := by
  show (P.map (e4 m t))[p]? = _
  rw [List.getElem?_map, h]; rfl
/-- what comesTo answers, and what it leaves of the row -/
def ctR (m : Nat) (t : List T) (pts : Pts) : Option Pts → DV × List DV
  | some q => (.b true, [.fr 4 (q.map (e4 m t))])
  | none => (.b false, [.fr 4 (pts.map (e4 m t))])
set_option maxHeartbeats 4000000 in
theorem c_comesTo {m : Nat} {t : List T} {pts : Pts} {p a : Int} {ks : List Int} (h1 : tmOk m t = true) (hl : ks.length = m) (hk : ks.all kOk = true) (hp : -1 ≤ p ∧ p ≤ 100) (hn : pts.length ≤ 40) :
    call lf n_impl_comesTo [.fr 4 (pts.map (e4 m t)), .i p, .i a, pD m t ks] = some (ctR m t pts (cTo m t pts p a ks)) := by
  obtain ⟨h3, _, _⟩ := tmOk_iff.1 h1
  have F := c_isForced h1 hl hk
  have W := c_impl_isWithin a (p + 1) ((pts.length : Int) - 1)
  have w1 : wr (p + 1) = p + 1 := wr_id (by omega) (by omega)
  have w2 : wr ((pts.length : Int) - 1) = (pts.length : Int) - 1 := wr_id (by omega) (by omega)
  have len : (pts.map (e4 m t)).length = pts.length := by simp
  have wid := wid_e4 m t pts
  have ad := fun x => adopt_e4 m t x pts
  rw [call_k lf n_impl_comesTo _ (F := F_impl_comesTo) rfl rfl]
  unfold cTo
  by_cases ha : a = -1
  · subst ha
    unfold pD pv at *
    cases hf : fcd m t ks with
    | true =>
      rw [hf] at F
      rw [if_pos (.inl rfl), if_pos ⟨rfl, rfl⟩]
      simp only [ctR]
      generalize pts.map (e4 m t) = M at *
      simp [F_impl_comesTo, F, len]
    | false =>
      rw [hf] at F
      rw [if_pos (.inl rfl), if_neg (by simp)]
      simp only [ctR]
      generalize pts.map (e4 m t) = M at *
      simp [F_impl_comesTo, F, len]
  · have na : (a == -1) = false := beq_eq_false_iff_ne.2 ha
    cases hf : fcd m t ks with
    | true =>
      rw [hf] at F
      rw [if_pos (.inr rfl), if_neg (fun h => ha h.1)]
      simp only [ctR]
      unfold pD pv at *
      generalize pts.map (e4 m t) = M at *
      simp [F_impl_comesTo, F, na, len]
    | false =>
      rw [hf] at F
      rw [if_neg (by simp [ha])]
      by_cases hw : p + 1 ≤ a ∧ a ≤ (pts.length : Int) - 1
      · rw [decide_eq_true hw] at W
        obtain ⟨n, rfl⟩ := Int.eq_ofNat_of_zero_le (a := a) (by omega)
        rw [Int.toNat_natCast]
        have hlt : n < pts.length := by omega
        have hlt' : (n : Int) < pts.length := by omega
        obtain ⟨o, ho⟩ : ∃ o, pts[n]? = some o := ⟨pts[n], List.getElem?_eq_getElem hlt⟩
        have A := atN_e4 (m := m) (t := t) ho
        cases o with
        | none =>
          rw [if_pos ⟨hw.1, hw.2, ho⟩]
          simp only [ctR]
          have e : (pts.set n (some ks)).map (e4 m t) = (pts.map (e4 m t)).set n (pD m t ks) := by rw [List.map_set]; rfl
          rw [e]
          simp only [e4] at A
          unfold pD pv at *
          have z1 : ((0 : Int) == 0) = true := rfl
          have z2 : ((0#32 : BitVec 32) == 0#32) = true := rfl
          generalize pts.map (e4 m t) = M at *
          generalize pts.length = N at *
          simp [F_impl_comesTo, F, na, w1, w2, W, len, hlt, hlt', A, eqI]
        | some ls =>
          rw [if_neg (by rw [ho]; rintro ⟨_, _, h⟩; cases h)]
          simp only [ctR]
          simp only [e4] at A
          unfold pD pv at *
          have m0 : ((m : Int) == 0) = false := beq_eq_false_iff_ne.2 (by omega)
          generalize pts.map (e4 m t) = M at *
          generalize pts.length = N at *
          simp [F_impl_comesTo, F, na, w1, w2, W, len, hlt, hlt', A, eqI, m0]
      · rw [decide_eq_false hw] at W
        rw [if_neg (fun h => hw ⟨h.1, h.2.1⟩)]
        simp only [ctR]
        unfold pD pv at *
        generalize pts.map (e4 m t) = M at *
        simp [F_impl_comesTo, F, na, w1, w2, W, len]
def stPt (m : Nat) (t : List T) (P : List C3) (p : Nat) (pts : Pts) : LS :=
  ⟨[(8, .own 11808 P.length 0 P.length), (32, .sl 0 (P.map e3)), (33, .i P.length), (34, .i p)], [(11808, pts.map (e4 m t))]⟩
def noPt : LS := ⟨[(6, .own 3104 0 0 0), (7, .b false)], [(3104, [])]⟩
set_option maxHeartbeats 8000000 in
theorem pt_step {m : Nat} {t : List T} {P : List C3} {p : Nat} {pts : Pts} {c : C3} (h1 : tmOk m t = true) (hc : P[p]? = some c) (hP : P.length ≤ 31) (hl : pts.length = P.length)
    (ho : ∀ (a : Nat) (ks : List Int), pts[a]? = some (some ks) → ks.length = m ∧ ks.all kOk = true) :
    ex lf F_impl_pointsOf_L0 (stPt m t P p pts) = match rn1 m t pts p c with
      | some q => some (.normal, stPt m t P (p + 1) q)
      | none => some (.ret, noPt) := by
  obtain ⟨h3, _, _⟩ := tmOk_iff.1 h1
  obtain ⟨k, no, ye⟩ := c
  have hlt : p < P.length := (List.getElem?_eq_some_iff.1 hc).1
  have hlt' : (p : Int) < P.length := by omega
  have AP := at_e3 hc
  have AN := atN_e3 hc
  simp only at AP AN
  obtain ⟨o, hpo⟩ : ∃ o, pts[p]? = some o := ⟨pts[p]'(by omega), List.getElem?_eq_getElem (by omega)⟩
  have A := atN_e4 (m := m) (t := t) hpo
  have len : (pts.map (e4 m t)).length = P.length := by simp [hl]
  have wid := wid_e4 m t pts
  have ld := lend_e4 m t pts
  have ad := fun x => adopt_e4 m t x pts
  have w1 : wr ((p : Int) + 1) = ((p + 1 : Nat) : Int) := by rw [wr_id (by omega) (by omega)]; omega
  unfold rn1
  rw [hpo]
  cases o with
  | none =>
    simp only
    have C := c_canAsk0 k
    simp only [e4] at A
    unfold stPt noPt
    unfold pv at *
    generalize pts.map (e4 m t) = M at *
    generalize P.length = N at *
    simp [F_impl_pointsOf_L0, hlt, hlt', AP, AN, len, A, C, w1, -Int.natCast_add]
  | some ks =>
    simp only
    obtain ⟨o1, o2⟩ := ho p ks hpo
    have C := c_canAsk (t := t) (ks := ks) (by omega) o1 k
    simp only [e4] at A
    by_cases hk : (0 ≤ k ∧ k < m) ∧ ks[k.toNat]? = some (-1)
    · have ca : caK m ks k = true := by unfold caK; rw [decide_eq_true hk.1, decide_eq_true hk.2]; rfl
      rw [ca] at C
      rw [if_pos hk]
      obtain ⟨j, rfl⟩ := Int.eq_ofNat_of_zero_le hk.1.1
      rw [Int.toNat_natCast] at hk ⊢
      have B0 := c_answered (m := m) (t := t) false (by omega) o2 hk.2
      have B1 := c_answered (m := m) (t := t) true (by omega) o2 hk.2
      rw [bI_0] at B0
      rw [bI_1] at B1
      have k0 : (ks.set j 0).all kOk = true := kOk_set o2 j false
      have k1 : (ks.set j 1).all kOk = true := kOk_set o2 j true
      have G0 := c_comesTo (pts := pts) (p := p) (a := no) h1 (ks := ks.set j 0) (by simpa using o1) k0 ⟨by omega, by omega⟩ (by omega)
      cases hc0 : cTo m t pts p no (ks.set j 0) with
      | none =>
        rw [hc0] at G0
        simp only [ctR] at G0
        rw [Option.bind_none]
        simp only
        unfold stPt noPt
        unfold pD pv at *
        generalize pts.map (e4 m t) = M at *
        generalize P.length = N at *
        simp [F_impl_pointsOf_L0, hlt, hlt', AP, AN, len, A, C, B0, G0, ld, ad, w1, -Int.natCast_add]
      | some q1 =>
        rw [hc0] at G0
        simp only [ctR] at G0
        rw [Option.bind_some]
        have l1 := cTo_len (by omega) hc0
        have len1 : (q1.map (e4 m t)).length = P.length := by simp [l1, hl]
        have ld1 := lend_e4 m t q1
        have ad1 := fun x => adopt_e4 m t x q1
        have G1 := c_comesTo (pts := q1) (p := p) (a := ye) h1 (ks := ks.set j 1) (by simpa using o1) k1 ⟨by omega, by omega⟩ (by omega)
        cases hc1 : cTo m t q1 p ye (ks.set j 1) with
        | none =>
          rw [hc1] at G1
          simp only [ctR] at G1
          simp only
          unfold stPt noPt
          unfold pD pv at *
          generalize pts.map (e4 m t) = M at *
          generalize q1.map (e4 m t) = M1 at *
          generalize P.length = N at *
          simp [F_impl_pointsOf_L0, hlt, hlt', AP, AN, len, A, C, B0, B1, G0, G1, len1, ld, ad, ld1, ad1, w1, -Int.natCast_add]
        | some q2 =>
          rw [hc1] at G1
          simp only [ctR] at G1
          simp only
          have ad2 := fun x => adopt_e4 m t x q2
          unfold stPt
          unfold pD pv at *
          generalize pts.map (e4 m t) = M at *
          generalize q1.map (e4 m t) = M1 at *
          generalize q2.map (e4 m t) = M2 at *
          generalize P.length = N at *
          simp [F_impl_pointsOf_L0, hlt, hlt', AP, AN, len, A, C, B0, B1, G0, G1, len1, ld, ad, ld1, ad1, ad2, w1, -Int.natCast_add]
    · have ca : caK m ks k = false := by
        unfold caK
        by_cases q : 0 ≤ k ∧ k < m
        · rw [decide_eq_true q, decide_eq_false (fun h => hk ⟨q, h⟩)]; rfl
        · rw [decide_eq_false q]; rfl
      rw [ca] at C
      rw [if_neg hk]
      simp only
      unfold stPt noPt
      unfold pD pv at *
      generalize pts.map (e4 m t) = M at *
      generalize P.length = N at *
      simp [F_impl_pointsOf_L0, hlt, hlt', AP, AN, len, A, C, w1, -Int.natCast_add]
end
section
attribute [-simp] DV.cells
attribute [local simp] sliceD cells_st cells_sl cells_i cells_y cells_b cells_s cells_w
attribute [local simp] lend_e3 adopt_e3 new_e3 al_e3 lt_e3
theorem pt_loop {m : Nat} {t : List T} {P : List C3} (h1 : tmOk m t = true) (hP : P.length ≤ 31) : ∀ (rest : List C3) (p : Nat) (pts : Pts), P.drop p = rest → p ≤ P.length → Inv m t P p pts →
    ex lf F_impl_pointsOf_W0 (stPt m t P p pts) = match rnA m t rest p pts with
      | some q => some (.exit 0, stPt m t P P.length q)
      | none => some (.ret, noPt)
  | [], p, pts, hd, hp, h => by
    have : P.length ≤ p := List.drop_eq_nil_iff.1 hd
    have e : p = P.length := by omega
    subst e
    rw [w_impl_pointsOf_0]
    unfold stPt
    have nlt : ¬ ((P.length : Int) < P.length) := by omega
    simp [F_impl_pointsOf_L0, nlt, rnA]
  | c :: r, p, pts, hd, hp, h => by
    have hc : P[p]? = some c := by
      have : (P.drop p)[0]? = some c := by rw [hd]; rfl
      rw [List.getElem?_drop, Nat.add_zero] at this
      exact this
    have hlt : p < P.length := (List.getElem?_eq_some_iff.1 hc).1
    have hd' : P.drop (p + 1) = r := by
      rw [← List.drop_drop, hd]
      rfl
    have S := pt_step h1 hc hP h.len (fun a ks ha => by obtain ⟨q1, q2, _⟩ := h.ok a ks ha; exact ⟨q1, q2⟩)
    rw [w_impl_pointsOf_0, S]
    simp only [rnA]
    cases hr : rn1 m t pts p c with
    | none => rfl
    | some q =>
      rw [Option.bind_some]
      exact pt_loop h1 hP r (p + 1) q hd' (by omega) (inv_step hc h hr)
/-- the rows of points, and whether there is one -/
def ptR (m : Int) (t : List T) (P : List C3) : Option Pts := if tmOk m t && decide (P.length ≤ 31) then rnS m.toNat t P else none
theorem ptR_iff {m : Int} {t : List T} {P : List C3} : (∃ q, ptR m t P = some q) ↔ pkOk m t P = true := by
  unfold ptR
  cases h1 : tmOk m t with
  | false =>
    simp only [Bool.false_and, Bool.false_eq_true, if_false]
    unfold pkOk
    rw [h1]
    simp
  | true =>
    obtain ⟨h3, _, _⟩ := tmOk_iff.1 h1
    obtain ⟨n, rfl⟩ := Int.eq_ofNat_of_zero_le (a := m) (by omega)
    rw [pk_iff, Int.toNat_natCast]
    by_cases h : P.length ≤ 31
    · rw [decide_eq_true h, Bool.and_self, if_pos rfl, rnS_iff h]
      exact ⟨fun q => ⟨h1, q⟩, fun q => q.2⟩
    · rw [decide_eq_false h]
      simp only [Bool.and_false, Bool.false_eq_true, if_false]
      constructor
      · rintro ⟨q, h⟩; cases h
      · rintro ⟨_, L, hL⟩; exact absurd hL.few h
def ptD (m : Int) (t : List T) : Option Pts → List DV
  | some q => q.map (e4 m.toNat t)
  | none => []
set_option maxHeartbeats 4000000 in
theorem c_pointsOf {m : Int} {t : List T} {P : List C3} (ht : (t.length : Int) < 1099511627776) (hN : (P.length : Int) < 1099511627776) :
    call lf n_impl_pointsOf [.i m, .sl 0 (t.map e2), .sl 0 (P.map e3)] = some (.tup [.fr 4 (ptD m t (ptR m t P)), .b (ptR m t P).isSome], []) := by
  have C1 := c_impl_TermOk m t ht
  rw [call_k lf n_impl_pointsOf _ (F := F_impl_pointsOf) rfl rfl]
  have lP : (P.map e3).length = P.length := by simp
  unfold ptR
  cases h1 : tmOk m t with
  | false => rw [h1] at C1; simp [F_impl_pointsOf, C1, ptD]
  | true =>
    rw [h1] at C1
    obtain ⟨h3, _, _⟩ := tmOk_iff.1 h1
    obtain ⟨n, rfl⟩ := Int.eq_ofNat_of_zero_le (a := m) (by omega)
    rw [Int.toNat_natCast]
    by_cases h : P.length ≤ 31
    · have ng : ¬ (31 : Int) < P.length := by omega
      rw [decide_eq_true h, Bool.and_self, if_pos rfl]
      have C2 := c_firstOf P hN
      have C3 := c_startOf (t := t) (by omega) h1
      have r1 : -1 ≤ rot P := by unfold rot; split <;> omega
      have C4 := c_comesTo (pts := List.replicate P.length none) (p := -1) (a := rot P) h1 (non_len n) (non_all n) ⟨by omega, by omega⟩ (by rw [List.length_replicate]; omega)
      have lE := lend_e3 P
      have rp : (List.replicate P.length (none : Option (List Int))).map (e4 n t) = List.replicate P.length (.st [.i 0, .i 0, .w (0#32), .w (0#32)]) := by rw [List.map_replicate]; rfl
      have ldr := lend_e4 n t (List.replicate P.length none)
      have adr := fun x => adopt_e4 n t x (List.replicate P.length none)
      rw [rp] at C4 ldr adr
      have lb : (P.length : Int) ≤ (bound : Int) := by unfold bound; omega
      unfold rnS
      cases hq : cTo n t (List.replicate P.length none) (-1) (rot P) (non n) with
      | none =>
        rw [hq] at C4
        simp only [ctR] at C4
        rw [rp] at C4
        rw [Option.bind_none]
        unfold pD pv at *
        generalize P.map e3 = Q at *
        generalize rot P = r0 at *
        generalize P.length = N at *
        have lr : (List.replicate N (DV.st [.i 0, .i 0, .w (0#32), .w (0#32)])).length = N := by simp
        simp [F_impl_pointsOf, C1, C2, C3, C4, ng, lb, lP, lE, ldr, adr, lr, ptD]
      | some q0 =>
        rw [hq] at C4
        simp only [ctR] at C4
        rw [Option.bind_some]
        obtain ⟨iv, _⟩ := inv_start hq
        have L := pt_loop h1 h P 0 q0 rfl (Nat.zero_le _) iv
        have ad0 := fun x => adopt_e4 n t x q0
        have lq0 : (q0.map (e4 n t)).length = P.length := by rw [List.length_map, iv.len]
        cases hr : rnA n t P 0 q0 with
        | none =>
          rw [hr] at L
          simp only at L
          unfold stPt noPt at L
          unfold pD pv at *
          generalize q0.map (e4 n t) = M at *
          generalize P.map e3 = Q at *
          generalize rot P = r0 at *
          generalize P.length = N at *
          have lr : (List.replicate N (DV.st [.i 0, .i 0, .w (0#32), .w (0#32)])).length = N := by simp
          simp only [Int.natCast_zero] at L
          simp [F_impl_pointsOf, C1, C2, C3, C4, ng, lb, lP, lE, ldr, ad0, lr, L, ptD]
        | some q =>
          rw [hr] at L
          simp only at L
          have iv2 := inv_all P 0 q0 q rfl (Nat.zero_le _) iv hr
          have lq : (q.map (e4 n t)).length = P.length := by rw [List.length_map, iv2.len]
          unfold stPt at L
          unfold pD pv at *
          simp only [ptD, Int.toNat_natCast]
          generalize q.map (e4 n t) = M2 at *
          generalize q0.map (e4 n t) = M at *
          generalize P.map e3 = Q at *
          generalize rot P = r0 at *
          generalize P.length = N at *
          have lr : (List.replicate N (DV.st [.i 0, .i 0, .w (0#32), .w (0#32)])).length = N := by simp
          simp only [Int.natCast_zero] at L
          simp [F_impl_pointsOf, C1, C2, C3, C4, ng, lb, lP, lE, ldr, ad0, lr, L, lq]
    · have ng : (31 : Int) < P.length := by omega
      rw [decide_eq_false h]
      generalize P.map e3 = Q at *
      generalize P.length = N at *
      simp [F_impl_pointsOf, C1, ng, lP, ptD]
theorem c_impl_PlanOk {m : Int} {t : List T} {P : List C3} (ht : (t.length : Int) < 1099511627776) (hN : (P.length : Int) < 1099511627776) :
    call lf n_impl_PlanOk [.i m, .sl 0 (t.map e2), .sl 0 (P.map e3)] = some (.b (pkOk m t P), []) := by
  have C := c_pointsOf (m := m) (t := t) (P := P) ht hN
  have e : (ptR m t P).isSome = pkOk m t P := by
    have q := ptR_iff (m := m) (t := t) (P := P)
    rw [Bool.eq_iff_iff, Option.isSome_iff_exists]
    exact q
  rw [e] at C
  have nw : allNewL (ptD m t (ptR m t P)) = true := by
    cases ptR m t P with
    | none => rfl
    | some q => exact new_e4 _ _ _
  rw [call_k lf n_impl_PlanOk _ (F := F_impl_PlanOk) rfl rfl]
  generalize ptD m t (ptR m t P) = M at *
  simp [F_impl_PlanOk, C, nw]
structure Fin (m : Nat) (t : List T) (P : List C3) (L : LT) (pts : Pts) : Prop where
  inv : Inv m t P P.length pts
  start : go3 m t P.length pts (-1) (rot P) (non m)
end
section
attribute [-simp] DV.cells
attribute [local simp] sliceD cells_st cells_sl cells_i cells_y cells_b cells_s cells_w
attribute [local simp] lend_e3 adopt_e3 new_e3 al_e3 lt_e3
theorem c_nextIn (k : Nat) (no ye : Int) (s : Nat) (hk : k ≤ 40) : call lf n_impl_Choice_nextIn [.st [.i k, .i no, .i ye], .i s] = some (.i (if s.testBit k then ye else no), []) := by
  have C := c_impl_outcomeIn s k (by omega) (by omega)
  rw [Int.toNat_natCast] at C
  have e : (s : Int) / 2 ^ k % 2 = bI (s.testBit k) := by
    unfold bI
    rw [Nat.testBit_eq_decide_div_mod_eq]
    have : (s : Int) / 2 ^ k % 2 = ((s / 2 ^ k % 2 : Nat) : Int) := by simp
    rw [this]
    by_cases h : s / 2 ^ k % 2 = 1
    · simp [h]
    · have : s / 2 ^ k % 2 = 0 := by omega
      simp [this]
  rw [e] at C
  rw [call_k lf n_impl_Choice_nextIn _ (F := F_impl_Choice_nextIn) rfl rfl]
  cases h : s.testBit k with
  | true =>
    rw [h, bI_1] at C
    simp [F_impl_Choice_nextIn, C]
  | false =>
    rw [h, bI_0] at C
    simp [F_impl_Choice_nextIn, C]
def stCb (us : List T) (P : List C3) (s : Int) (cost some_ at_ : Int) : LS := ⟨[(0, .sl 0 (us.map e2)), (2, .sl 0 (P.map e3)), (3, .i s), (12, .i cost), (13, .i some_), (14, .i at_)], []⟩
set_option maxHeartbeats 4000000 in
theorem cb_to {us : List T} (hu : us.all tOk = true) (hm : us.length ≤ 5) {P : List C3} {s : Nat} : ∀ (L : LT) (a sum : Int) (so : Nat), enc P a L → (∀ k ∈ pth L.er s, k < us.length) → so < 2 ^ us.length → 0 ≤ sum → sum + 9 * (pth L.er s).length ≤ 100000 →
    ex lf F_impl_CostBy_W0 (stCb us P s sum so a) = some (.exit 0, stCb us P s (sum + tC us L.er s) (bitsN so (pth L.er s) : Nat) (-1))
  | .stop, a, sum, so, he, hp, hso, h0, h1 => by
    have he : a = -1 := he
    subst he
    rw [w_impl_CostBy_0]
    simp only [LT.er, tC, pth, bitsN, Int.add_zero]
    simp only [stCb]
    simp [F_impl_CostBy_L0]
  | .ask p k n y, a, sum, so, ⟨e, no, ye, h1, h2, h3, h4, h5⟩, hp, hso, hs0, hs1 => by
    subst e
    simp only [LT.er, pth] at hp hs1
    have hk : k < us.length := hp k List.mem_cons_self
    have AT := at_e3 h1
    have pl : p < P.length := (List.getElem?_eq_some_iff.1 h1).1
    have pl' : (p : Int) < P.length := by omega
    have pn : ((p : Int) != -1) = true := bne_iff_ne.2 (by omega)
    obtain ⟨c, cq, c1, c2, c3⟩ := cA_at (us := us) (a := (k : Int)) (by omega) (by omega)
    rw [Int.toNat_natCast] at c2
    have cn := cA_nn hu k
    have hq' : (P.map e3).length = P.length := by simp
    have ul : (us.map e2).length = us.length := by simp
    have kl' : (k : Int) < us.length := by omega
    have NX := c_nextIn k no ye s (by omega)
    have so32 : so < 32 := by
      have : 2 ^ us.length ≤ 2 ^ 5 := Nat.pow_le_pow_right (by omega) hm
      omega
    have O := or_i (so := so) (a := (k : Int)) so32 (by omega) (by omega)
    rw [Int.toNat_natCast] at O
    have so' : so ||| 2 ^ k < 2 ^ us.length := or_lt2 hso hk
    simp only [List.length_cons] at hs1
    have w2 : wr (sum + c) = sum + cA us k := by rw [c2, wr_id (by omega) (by omega)]
    have nk : ¬ (k : Int) < 0 := by omega
    simp only [LT.er, tC, pth, bitsN]
    rw [w_impl_CostBy_0]
    cases hb : s.testBit k with
    | true =>
      rw [hb] at NX
      simp only [if_true] at NX
      rw [hb, if_pos rfl] at hp hs1
      have ih := cb_to hu hm y ye (sum + cA us k) (so ||| 2 ^ k) h5 (fun j hj => hp j (List.mem_cons_of_mem _ hj)) so' (by omega) (by omega)
      rw [if_pos rfl, if_pos rfl, ← Int.add_assoc, ← ih]
      simp only [stCb]
      generalize P.length = N at *
      generalize P.map e3 = E at *
      generalize us.map e2 = U at *
      simp [F_impl_CostBy_L0, AT, pl', pn, c1, hq', ul, kl', NX, O, w2, nk]
    | false =>
      rw [hb] at NX
      simp only [Bool.false_eq_true, if_false] at NX
      rw [hb, if_neg (by simp)] at hp hs1
      have ih := cb_to hu hm n no (sum + cA us k) (so ||| 2 ^ k) h4 (fun j hj => hp j (List.mem_cons_of_mem _ hj)) so' (by omega) (by omega)
      rw [if_neg (by simp), if_neg (by simp), ← Int.add_assoc, ← ih]
      simp only [stCb]
      generalize P.length = N at *
      generalize P.map e3 = E at *
      generalize us.map e2 = U at *
      simp [F_impl_CostBy_L0, AT, pl', pn, c1, hq', ul, kl', NX, O, w2, nk]
theorem c_impl_CostBy {us t : List T} (hu : tsOk us = true) (ht : tmOk us.length t = true) {P : List C3} {L : LT} (h : isPl us.length t P L) {s : Nat} (hs : s < 2 ^ us.length) :
    call lf n_impl_CostBy [.sl 0 (us.map e2), .sl 0 (t.map e2), .sl 0 (P.map e3), .i s] = some (.tup [.i (tC us L.er s), .i (ask0 L.er s : Nat), .b true], []) := by
  have hu' := tsOk_iff.1 hu
  obtain ⟨_, tl, _⟩ := tmOk_iff.1 ht
  have few := h.few
  have C1 := c_impl_TestsOk us (by omega)
  rw [hu] at C1
  have C2 := c_impl_PlanOk (m := us.length) (t := t) (P := P) (by omega) (by omega)
  rw [pk_iff.2 ⟨ht, L, h⟩] at C2
  have C3 := c_impl_StateOk us.length s
  have so : stOk us.length s = true := by
    obtain ⟨p1, p2, p3⟩ := pow5 (m := us.length) (by omega) (by omega)
    simp only [Int.toNat_natCast] at p1 p2 p3
    exact stOk_iff.2 ⟨by omega, by omega, by rw [Int.toNat_natCast]; omega⟩
  rw [so] at C3
  have C4 := c_firstOf P (by omega)
  have nd := pth_nodup L.er (non us.length) s h.ok
  have pk : ∀ k ∈ pth L.er s, k < us.length := fun k hk => by
    have := ks_ex (nd.2 k hk)
    rwa [non_len] at this
  have pl := pth_le L.er s
  have dl := dpT_le L.er (non us.length) (non_len _) h.ok
  rw [uk_non] at dl
  have W := cb_to hu'.2 (by omega) (P := P) (s := s) L (rot P) 0 0 h.e pk (Nat.pow_pos (by omega)) (by omega) (by omega)
  rw [Int.zero_add, show bitsN 0 (pth L.er s) = ask0 L.er s from rfl] at W
  have hLE := lend_e3 P
  simp only [stCb, Int.natCast_zero] at W
  rw [call_k lf n_impl_CostBy _ (F := F_impl_CostBy) rfl rfl]
  generalize tC us L.er s = X at *
  generalize ask0 L.er s = Y at *
  generalize P.map e3 = E at *
  generalize rot P = r0 at *
  simp [F_impl_CostBy, C1, C2, C3, C4, hLE, W]
def csL (us : List T) (x : PT) (N i : Nat) : List Int := (List.range N).map fun k => if k < i then tC us x k else 0
theorem csL_len (us : List T) (x : PT) (N i : Nat) : (csL us x N i).length = N := by simp [csL]
theorem csL_set {us : List T} {x : PT} {N i : Nat} (hi : i < N) : (csL us x N i).set i (tC us x i) = csL us x N (i + 1) := by
  apply List.ext_getElem?
  intro k
  by_cases h : k < N
  · by_cases e : k = i
    · subst e
      rw [List.getElem?_set_self (by simp [csL_len, hi])]
      simp [csL, h]
    · rw [List.getElem?_set_ne (fun q => e q.symm)]
      have e' : k < i ↔ k < i + 1 := by omega
      simp [csL, h, e']
  · rw [List.getElem?_eq_none (by simp [csL_len]; omega), List.getElem?_eq_none (by simp [csL_len]; omega)]
theorem csL_at {us : List T} {x : PT} {N k : Nat} (h : k < N) : (csL us x N N)[k]? = some (tC us x k) := by simp [csL, h]
set_option maxHeartbeats 4000000 in
theorem c_costsBy {us t : List T} (hu : tsOk us = true) (ht : tmOk us.length t = true) {P : List C3} {L : LT} (h : isPl us.length t P L) :
    call lf n_impl_costsBy [.sl 0 (us.map e2), .sl 0 (t.map e2), .sl 0 (P.map e3)] = some (.tup [.fr 1 ((csL us L.er (2 ^ us.length) (2 ^ us.length)).map .i), .b true], []) := by
  have hu' := tsOk_iff.1 hu
  obtain ⟨p1, p2, p3⟩ := pow5 (m := us.length) (by omega) (by omega)
  simp only [Int.toNat_natCast] at p1 p2 p3
  obtain ⟨_, tl, _⟩ := tmOk_iff.1 ht
  have few := h.few
  have C1 := c_impl_TestsOk us (by omega)
  rw [hu] at C1
  have C2 := c_impl_PlanOk (m := us.length) (t := t) (P := P) (by omega) (by omega)
  rw [pk_iff.2 ⟨ht, L, h⟩] at C2
  have C4 := c_impl_statesOf us.length (by omega) (by omega)
  simp only [Int.toNat_natCast] at C4
  rw [← p3] at C4
  have hLE := lend_e3 P
  have LP := loop_count (lf := lf) (L := F_impl_costsBy_L0) (2 ^ us.length) (fun i => ⟨[(0, .sl 0 (us.map e2)), (1, .sl 0 (t.map e2)), (2, .sl 0 (P.map e3)), (9, .own 12808 (2 ^ us.length) 0 (2 ^ us.length)), (27, .i (2 ^ us.length : Nat)), (28, .i i)], [(12808, (csL us L.er (2 ^ us.length) i).map .i)]⟩) (x := .exit 0) (R := ⟨[(0, .sl 0 (us.map e2)), (1, .sl 0 (t.map e2)), (2, .sl 0 (P.map e3)), (9, .own 12808 (2 ^ us.length) 0 (2 ^ us.length)), (27, .i (2 ^ us.length : Nat)), (28, .i (2 ^ us.length : Nat))], [(12808, (csL us L.er (2 ^ us.length) (2 ^ us.length)).map .i)]⟩) (fun i hi => by
    have C := c_impl_CostBy hu ht h hi
    have w1 : wr ((i : Int) + 1) = ((i + 1 : Nat) : Int) := by rw [wr_id (by omega) (by omega)]; omega
    have ll := csL_len us L.er (2 ^ us.length) i
    have st := csL_set (us := us) (x := L.er) (N := 2 ^ us.length) (i := i) hi
    rw [← st]
    obtain ⟨x, hx⟩ : ∃ x : Int, atN ((csL us L.er (2 ^ us.length) i).map DV.i) i = some (.i x) := ⟨(csL us L.er (2 ^ us.length) i)[i]'(by omega), by show ((csL us L.er (2 ^ us.length) i).map DV.i)[i]? = _; rw [List.getElem?_map, List.getElem?_eq_getElem (by omega)]; rfl⟩
    generalize csL us L.er (2 ^ us.length) i = cs at *
    generalize tC us L.er i = c at *
    generalize ask0 L.er i = so at *
    generalize (2 ^ us.length : Nat) = N at *
    generalize P.map e3 = E at *
    have hin : (i : Int) < (N : Int) := by omega
    have hiN : i < N := hi
    simp only [List.map_set]
    simp [F_impl_costsBy_L0, hin, hiN, C, w1, ll, hx, hLE, -Int.natCast_add]) (by
    generalize (2 ^ us.length : Nat) = N at *
    generalize P.map e3 = E at *
    simp [F_impl_costsBy_L0]) (by simp)
  have z : csL us L.er (2 ^ us.length) 0 = List.replicate (2 ^ us.length) 0 := by
    unfold csL
    simp
    apply List.ext_getElem?
    intro k
    by_cases h : k < 2 ^ us.length <;> simp [h]
  rw [z] at LP
  have ll := csL_len us L.er (2 ^ us.length) (2 ^ us.length)
  have lb : ((2 ^ us.length : Nat) : Int) ≤ (bound : Int) := by unfold bound; omega
  rw [call_k lf n_impl_costsBy _ (F := F_impl_costsBy) rfl rfl]
  generalize csL us L.er (2 ^ us.length) (2 ^ us.length) = cs at *
  generalize (2 ^ us.length : Nat) = N at *
  simp only [Int.natCast_zero, List.map_replicate] at LP
  change ex lf F_impl_costsBy_W0 _ = _ at LP
  have n0 : ¬ ((N : Int) < 0) := by omega
  generalize P.map e3 = E at *
  simp [F_impl_costsBy, C1, C2, C4, LP, lb, ll, hLE]
set_option maxHeartbeats 4000000 in
theorem c_impl_AverageBy {us t : List T} (hu : tsOk us = true) (ht : tmOk us.length t = true) {P : List C3} {L : LT} (h : isPl us.length t P L) :
    call lf n_impl_AverageBy [.sl 0 (us.map e2), .sl 0 (t.map e2), .sl 0 (P.map e3)] = some (.i (tA us (non us.length) L.er), []) := by
  have hu' := tsOk_iff.1 hu
  obtain ⟨p1, p2, p3⟩ := pow5 (m := us.length) (by omega) (by omega)
  simp only [Int.toNat_natCast] at p1 p2 p3
  have C := c_costsBy hu ht h
  have hLE := lend_e3 P
  have ll := csL_len us L.er (2 ^ us.length) (2 ^ us.length)
  have LP := loop_count (lf := lf) (L := F_impl_AverageBy_L0) (2 ^ us.length) (fun i => ⟨[(0, .sl 0 (us.map e2)), (9, .i (avN us L.er i)), (21, .own 8201 (2 ^ us.length) 0 (2 ^ us.length)), (22, .i (2 ^ us.length : Nat)), (23, .i i)], [(8201, (csL us L.er (2 ^ us.length) (2 ^ us.length)).map .i)]⟩) (x := .exit 0) (R := ⟨[(0, .sl 0 (us.map e2)), (9, .i (avN us L.er (2 ^ us.length))), (21, .own 8201 (2 ^ us.length) 0 (2 ^ us.length)), (22, .i (2 ^ us.length : Nat)), (23, .i (2 ^ us.length : Nat))], [(8201, (csL us L.er (2 ^ us.length) (2 ^ us.length)).map .i)]⟩) (fun i hi => by
    have W := c_impl_WeightOf us i (by omega)
    rw [wtOf_of hu (by omega) (by omega)] at W
    have e : avN us L.er (i + 1) = avN us L.er i + wt us i * tC us L.er i := rfl
    have b0 := avN_bd hu h.ok (i := i) (by omega)
    have b1 := avN_bd hu h.ok (i := i + 1) (by omega)
    have w1 : wr ((i : Int) + 1) = ((i + 1 : Nat) : Int) := by rw [wr_id (by omega) (by omega)]; omega
    rw [e] at b1 ⊢
    have w2 : wr (wt us i * tC us L.er i) = wt us i * tC us L.er i := wr_id (by omega) (by omega)
    have w3 : wr (avN us L.er i + wt us i * tC us L.er i) = avN us L.er i + wt us i * tC us L.er i := wr_id (by omega) (by omega)
    have A : atN ((csL us L.er (2 ^ us.length) (2 ^ us.length)).map DV.i) i = some (.i (tC us L.er i)) := by
      show ((csL us L.er (2 ^ us.length) (2 ^ us.length)).map DV.i)[i]? = _
      rw [List.getElem?_map, csL_at hi]; rfl
    generalize csL us L.er (2 ^ us.length) (2 ^ us.length) = cs at *
    generalize (2 ^ us.length : Nat) = N at *
    have hin : (i : Int) < (N : Int) := by omega
    have hiN : i < N := hi
    simp [F_impl_AverageBy_L0, hin, hiN, W, A, w1, w2, w3, ll, -Int.natCast_add]) (by
    generalize csL us L.er (2 ^ us.length) (2 ^ us.length) = cs at *
    generalize (2 ^ us.length : Nat) = N at *
    simp [F_impl_AverageBy_L0]) (by simp)
  have z : avN us L.er 0 = 0 := rfl
  have fin : tA us (non us.length) L.er = avN us L.er (2 ^ us.length) := avT h.ok
  rw [z] at LP
  simp only [Int.natCast_zero] at LP
  rw [call_k lf n_impl_AverageBy _ (F := F_impl_AverageBy) rfl rfl, fin]
  generalize avN us L.er (2 ^ us.length) = X at *
  generalize csL us L.er (2 ^ us.length) (2 ^ us.length) = cs at *
  generalize (2 ^ us.length : Nat) = N at *
  generalize P.map e3 = E at *
  change ex lf F_impl_AverageBy_W0 _ = _ at LP
  simp [F_impl_AverageBy, C, LP, hLE, ll]
end
section
def lsB (S : Nat → Int) (ks : List Int) : Nat → Int × Int
  | 0 => (-1, 0)
  | i + 1 => if ks[i]? = some (-1) then (if (lsB S ks i).1 = -1 ∨ S i < (lsB S ks i).2 then ((i : Int), S i) else lsB S ks i) else lsB S ks i
def lsF (m : Nat) (t : List T) (pr : List Int → Nat → Int → Int → Int) : Nat → List Int → Int × Int
  | 0, _ => (-1, 0)
  | f + 1, ks => if fcd m t ks = true then (-1, 0) else lsB (fun k => pr ks k (lsF m t pr f (ks.set k 0)).2 (lsF m t pr f (ks.set k 1)).2) ks m
theorem lsB_lp {S S' : Nat → Int} {ks : List Int} {c : Int} (hc : 1 ≤ c) (h : ∀ k, ks[k]? = some (-1) → 0 ≤ S k ∧ S' k = c * S k) : ∀ i : Nat,
    (lsB S ks i = (-1, 0) ∧ lpB S' ks i = (-1, -1)) ∨ ∃ k : Nat, k < i ∧ ks[k]? = some (-1) ∧ lsB S ks i = ((k : Int), S k) ∧ lpB S' ks i = (S' k, (k : Int))
  | 0 => .inl ⟨rfl, rfl⟩
  | i + 1 => by
    simp only [lsB, lpB]
    by_cases hi : ks[i]? = some (-1)
    · rw [if_pos hi, if_pos hi]
      right
      rcases lsB_lp hc h i with ⟨e1, e2⟩ | ⟨k, k1, k2, e1, e2⟩
      · rw [e1, e2, if_pos (.inl rfl), if_pos (.inl (by show (-1 : Int) < 0; omega))]
        exact ⟨i, by omega, hi, rfl, rfl⟩
      · rw [e1, e2]
        obtain ⟨a0, a1⟩ := h i hi
        obtain ⟨b0, b1⟩ := h k k2
        have bn : 0 ≤ S' k := by rw [b1]; exact Int.mul_nonneg (by omega) b0
        have q : S' i < S' k ↔ S i < S k := by
          rw [a1, b1]
          constructor
          · intro hx
            exact Int.lt_of_mul_lt_mul_left hx (by omega)
          · intro hx
            exact Int.mul_lt_mul_of_pos_left hx (by omega)
        by_cases hx : S i < S k
        · rw [if_pos (.inr hx), if_pos (.inr (q.2 hx))]
          exact ⟨i, by omega, hi, rfl, rfl⟩
        · rw [if_neg (by rintro (h | h); exact absurd h (by show ¬ (k : Int) = -1; omega); exact hx h), if_neg (by rintro (h | h); exact absurd h (by show ¬ S' k < 0; omega); exact hx (q.1 h))]
          exact ⟨k, by omega, k2, rfl, rfl⟩
    · rw [if_neg hi, if_neg hi]
      rcases lsB_lp hc h i with e | ⟨k, k1, k2, e1, e2⟩
      · exact .inl e
      · exact .inr ⟨k, by omega, k2, e1, e2⟩
/-- the weight of what is known -/
def kp : List T → List Int → Int
  | t :: r, k :: ks => (if k = -1 then 1 else if k = 1 then t.2 else 6 - t.2) * kp r ks
  | _, _ => 1
theorem kp_wk : ∀ {us : List T} {ks : List Int}, ks.length = us.length → wk us ks = kp us ks * 6 ^ uk ks
  | [], [], _ => rfl
  | [], _ :: _, h => by simp at h
  | _ :: _, [], h => by simp at h
  | t :: us, k :: ks, h => by
    have ih := kp_wk (us := us) (ks := ks) (by simpa using h)
    show (if k = -1 then 6 else if k = 1 then t.2 else 6 - t.2) * wk us ks = (if k = -1 then 1 else if k = 1 then t.2 else 6 - t.2) * kp us ks * 6 ^ uk (k :: ks)
    rw [ih]
    by_cases e : k = -1
    · have : uk (k :: ks) = uk ks + 1 := by simp only [uk]; rw [if_pos e]; omega
      rw [if_pos e, if_pos e, this, Int.pow_succ, Int.one_mul, Int.mul_comm 6, Int.mul_assoc]
    · have : uk (k :: ks) = uk ks := by simp only [uk]; rw [if_neg e]; omega
      rw [if_neg e, if_neg e, this, Int.mul_assoc]
theorem kp_pos : ∀ {us : List T} {ks : List Int}, us.all tOk = true → 1 ≤ kp us ks
  | [], ks, _ => by simp [kp]
  | t :: us, [], _ => by simp [kp]
  | t :: us, k :: ks, h => by
    simp only [List.all_cons, Bool.and_eq_true] at h
    have ih := kp_pos (us := us) (ks := ks) h.2
    have ht := (tOk_iff.1 h.1).2
    have c : 1 ≤ (if k = -1 then 1 else if k = 1 then t.2 else 6 - t.2) := by
      split
      · omega
      · split <;> omega
    have := Int.mul_le_mul c ih (by omega) (by omega)
    simpa [kp] using this
theorem kp_put : ∀ {us : List T} {ks : List Int} {k : Nat}, ks.length = us.length → ks[k]? = some (-1) →
    kp us (ks.set k 0) = kp us ks * (6 - (us.getD k (0, 0)).2) ∧ kp us (ks.set k 1) = kp us ks * (us.getD k (0, 0)).2
  | _, [], k, _, h => by simp at h
  | [], x :: r, k, hl, h => by simp at hl
  | t :: us, x :: r, 0, hl, h => by
    simp only [List.getElem?_cons_zero, Option.some.injEq] at h
    subst h
    have e : kp (t :: us) (-1 :: r) = kp us r := by simp [kp]
    rw [e]
    refine ⟨?_, ?_⟩
    · show (6 - t.2) * kp us r = _
      rw [Int.mul_comm]; rfl
    · show t.2 * kp us r = _
      rw [Int.mul_comm]; rfl
  | t :: us, x :: r, k + 1, hl, h => by
    simp only [List.getElem?_cons_succ] at h
    obtain ⟨h2, h3⟩ := kp_put (us := us) (by simpa using hl) h
    have e : ∀ ks : List Int, kp (t :: us) (x :: ks) = (if x = -1 then 1 else if x = 1 then t.2 else 6 - t.2) * kp us ks := fun _ => rfl
    generalize hc : (if x = -1 then 1 else if x = 1 then t.2 else 6 - t.2) = c at e
    have g : (t :: us).getD (k + 1) (0, 0) = us.getD k (0, 0) := by simp [List.getD]
    rw [g]
    refine ⟨?_, ?_⟩
    · rw [List.set_cons_succ, e, e, h2, Int.mul_assoc]
    · rw [List.set_cons_succ, e, e, h3, Int.mul_assoc]
theorem kp_non : ∀ us : List T, kp us (non us.length) = 1
  | [] => rfl
  | t :: us => by
    show (if (-1 : Int) = -1 then 1 else _) * kp us (non us.length) = 1
    rw [if_pos rfl, kp_non us]
    rfl
/-- what asking costs on average, in parts -/
def avQ (us : List T) (ks : List Int) (k : Nat) (no yes : Int) : Int := cA us k * 6 ^ uk ks + (6 - (us.getD k (0, 0)).2) * no + (us.getD k (0, 0)).2 * yes
theorem lsF_bPl {us t : List T} (h : us.all tOk = true) : ∀ (f : Nat) (ks : List Int), ks.length = us.length → ks.all kOk = true → uk ks ≤ f →
    0 ≤ (lsF us.length t (avQ us) f ks).2 ∧ kp us ks * (lsF us.length t (avQ us) f ks).2 = (bPl us t f ks).1 ∧ (lsF us.length t (avQ us) f ks).1 = (bPl us t f ks).2
  | 0, ks, hl, hk, hu => by
    simp only [lsF, bPl]
    exact ⟨Int.le_refl _, by simp, by simp⟩
  | f + 1, ks, hl, hk, hu => by
    simp only [lsF, bPl]
    cases hc : fcd us.length t ks with
    | true => rw [if_pos rfl, if_pos rfl]; exact ⟨Int.le_refl _, by simp, rfl⟩
    | false =>
      rw [if_neg (by simp), if_neg (by simp)]
      have key : ∀ k, ks[k]? = some (-1) → 0 ≤ avQ us ks k (lsF us.length t (avQ us) f (ks.set k 0)).2 (lsF us.length t (avQ us) f (ks.set k 1)).2 ∧
          wk us ks * cA us k + (bPl us t f (ks.set k 0)).1 + (bPl us t f (ks.set k 1)).1 = kp us ks * avQ us ks k (lsF us.length t (avQ us) f (ks.set k 0)).2 (lsF us.length t (avQ us) f (ks.set k 1)).2 := fun k hkk => by
        have u := fun (b : Bool) => uk_set (b := bI b) (by cases b <;> simp [bI]) hkk
        have u0 := u false
        have u1 := u true
        rw [bI_0] at u0
        rw [bI_1] at u1
        obtain ⟨a1, a2, _⟩ := lsF_bPl h (t := t) f (ks.set k 0) (by simpa using hl) (kOk_set hk k false) (by omega)
        obtain ⟨b1, b2, _⟩ := lsF_bPl h (t := t) f (ks.set k 1) (by simpa using hl) (kOk_set hk k true) (by omega)
        obtain ⟨p0, p1⟩ := kp_put hl hkk
        rw [← a2, ← b2, p0, p1, kp_wk hl]
        have kl := ks_ex hkk
        have tq : 1 ≤ (us.getD k (0, 0)).2 ∧ (us.getD k (0, 0)).2 ≤ 5 := by
          have hlt : k < us.length := by omega
          have e : us.getD k (0, 0) = us[k] := by simp [List.getD, hlt]
          have := tOk_iff.1 (List.all_eq_true.1 h us[k] (List.getElem_mem hlt))
          rw [← e] at this
          exact this.2
        have c0 := cA_nn' h k
        have pp : (0 : Int) ≤ 6 ^ uk ks := Int.le_of_lt (Int.pow_pos (by omega))
        generalize (lsF us.length t (avQ us) f (ks.set k 0)).2 = x at *
        generalize (lsF us.length t (avQ us) f (ks.set k 1)).2 = y at *
        unfold avQ
        generalize (us.getD k (0, 0)).2 = q at *
        generalize cA us k = c at *
        generalize (6 : Int) ^ uk ks = w at *
        generalize kp us ks = K at *
        refine ⟨?_, ?_⟩
        · have m1 := Int.mul_nonneg c0 pp
          have m2 := Int.mul_nonneg (show (0 : Int) ≤ 6 - q by omega) a1
          have m3 := Int.mul_nonneg (show (0 : Int) ≤ q by omega) b1
          omega
        · rw [Int.mul_add, Int.mul_add, Int.mul_assoc K (6 - q) x, Int.mul_assoc K q y, Int.mul_assoc K w c, Int.mul_comm w c]
      rcases lsB_lp (kp_pos (ks := ks) h) key us.length with ⟨e1, e2⟩ | ⟨k, k1, k2, e1, e2⟩
      · exfalso
        have up : 0 < uk ks := by
          apply Nat.pos_of_ne_zero
          intro e
          rw [fcd_all hl hk e] at hc
          cases hc
        have B := bPl_ok (t := t) h (f + 1) ks hl hk hu
        obtain ⟨k, k1, k2, _⟩ := B.go hc
        simp only [bPl] at k2
        rw [if_neg (by rw [hc]; simp), e2] at k2
        simp only at k2
        omega
      · rw [e1, e2]
        exact ⟨(key k k2).1, (key k k2).2.symm, rfl⟩
theorem lsF_up {us t : List T} (h : us.all tOk = true) (hm : us.length ≤ 5) {f : Nat} {ks : List Int} (hl : ks.length = us.length) (hk : ks.all kOk = true) (hu : uk ks ≤ f) (hf : f ≤ 5) : (lsF us.length t (avQ us) f ks).2 ≤ 349920 := by
  obtain ⟨a1, a2, _⟩ := lsF_bPl h (t := t) f ks hl hk hu
  have b := bPl_up h (t := t) f ks hl hk hu
  have kpp := kp_pos (ks := ks) h
  rw [← a2, kp_wk hl] at b
  have ul := uk_le ks
  have p := p6 (n := uk ks) (by omega)
  have : (lsF us.length t (avQ us) f ks).2 ≤ 9 * f * 6 ^ uk ks := by
    refine Int.le_of_mul_le_mul_left (a := kp us ks) ?_ (by omega)
    rw [show kp us ks * (9 * (f : Int) * 6 ^ uk ks) = 9 * f * (kp us ks * 6 ^ uk ks) by rw [Int.mul_left_comm]]
    exact b
  have q : 9 * (f : Int) * 6 ^ uk ks ≤ 45 * 7776 := Int.mul_le_mul (by omega) p.2 (by omega) (by omega)
  omega
end
section
attribute [-simp] DV.cells
attribute [local simp] sliceD cells_st cells_sl cells_i cells_y cells_b cells_s cells_w
theorem c_impl_wholeOf {n : Nat} (hn : n ≤ 5) : call lf n_impl_wholeOf [.i n] = some (.i (6 ^ n), []) := by
  rw [call_k lf n_impl_wholeOf _ (F := F_impl_wholeOf) rfl rfl]
  have L := loop_count (lf := lf) (L := F_impl_wholeOf_L0) n (fun i => ⟨[(3, .i (6 ^ i)), (4, .i n), (5, .i i)], []⟩) (x := .exit 0) (R := ⟨[(3, .i (6 ^ n)), (4, .i n), (5, .i n)], []⟩) (fun i hi => by
    have p := p6 (n := i) (by omega)
    have w1 : wr ((i : Int) + 1) = i + 1 := wr_id (by omega) (by omega)
    have w2 : wr ((6 : Int) ^ i * 6) = 6 ^ i * 6 := wr_id (by omega) (by omega)
    simp [F_impl_wholeOf_L0, hi, w1, w2, Int.pow_succ]) (by simp [F_impl_wholeOf_L0]) (by simp)
  have L' : ex lf F_impl_wholeOf_W0 ⟨[(3, .i 1), (4, .i n), (5, .i 0)], []⟩ = some (.exit 0, ⟨[(3, .i (6 ^ n)), (4, .i n), (5, .i n)], []⟩) := L
  simp [F_impl_wholeOf, L']
end
section
attribute [-simp] DV.cells
attribute [local simp] sliceD cells_st cells_sl cells_i cells_y cells_b cells_s cells_w
attribute [local simp] lend_e3 adopt_e3 new_e3 al_e3 lt_e3
theorem c_averageAsking {c q no yes : Int} {n : Nat} (hn : n ≤ 5) (hc : 1 ≤ c ∧ c ≤ 9) (hq : 1 ≤ q ∧ q ≤ 5) (h0 : 0 ≤ no ∧ no ≤ 400000) (h1 : 0 ≤ yes ∧ yes ≤ 400000) :
    call lf n_impl_averageAsking [.st [.i c, .i q], .i n, .i no, .i yes] = some (.i (c * 6 ^ n + (6 - q) * no + q * yes), []) := by
  have W := c_impl_wholeOf hn
  have p := p6 hn
  have b1 : c * 6 ^ n ≤ 9 * 7776 := Int.mul_le_mul hc.2 p.2 (by omega) (by omega)
  have b1' : 0 ≤ c * 6 ^ n := Int.mul_nonneg (by omega) (by omega)
  have b2 : (6 - q) * no ≤ 5 * 400000 := Int.mul_le_mul (by omega) h0.2 h0.1 (by omega)
  have b2' : 0 ≤ (6 - q) * no := Int.mul_nonneg (by omega) h0.1
  have b3 : q * yes ≤ 5 * 400000 := Int.mul_le_mul (by omega) h1.2 h1.1 (by omega)
  have b3' : 0 ≤ q * yes := Int.mul_nonneg (by omega) h1.1
  have w2 : wr (c * 6 ^ n) = c * 6 ^ n := wr_id (by omega) (by omega)
  have w3 : wr (6 - q) = 6 - q := wr_id (by omega) (by omega)
  have w4 : wr ((6 - q) * no) = (6 - q) * no := wr_id (by omega) (by omega)
  have w5 : wr (c * 6 ^ n + (6 - q) * no) = c * 6 ^ n + (6 - q) * no := wr_id (by omega) (by omega)
  have w6 : wr (q * yes) = q * yes := wr_id (by omega) (by omega)
  have w7 : wr (c * 6 ^ n + (6 - q) * no + q * yes) = c * 6 ^ n + (6 - q) * no + q * yes := wr_id (by omega) (by omega)
  rw [call_k lf n_impl_averageAsking _ (F := F_impl_averageAsking) rfl rfl]
  generalize (6 : Int) ^ n = z at *
  simp [F_impl_averageAsking, W, w2, w3, w4, w5, w6, w7]
set_option maxHeartbeats 4000000 in
theorem c_averagesOf_1 {us t : List T} {ks : List Int} (hu : us.all tOk = true) (hm : us.length ≤ 5) (hl : ks.length = us.length) {k : Nat} (hk : k < us.length) {no yes : Int} (h0 : 0 ≤ no ∧ no ≤ 400000) (h1 : 0 ≤ yes ∧ yes ≤ 400000) :
    call lf n_impl_averagesOf_1 [pD us.length t ks, .i k, .i no, .i yes, .adr (.sl 0 (us.map e2))] = some (.i (avQ us ks k no yes), []) := by
  obtain ⟨c, q, c1, c2, c3⟩ := cA_at (us := us) (a := (k : Int)) (by omega) (by omega)
  rw [Int.toNat_natCast] at c2 c3
  have tq : tOk (c, q) = true := by
    have e : us.getD k (0, 0) = us[k] := by simp [List.getD, hk]
    rw [← c3, e]
    exact List.all_eq_true.1 hu us[k] (List.getElem_mem hk)
  have tq := tOk_iff.1 tq
  simp only at tq
  have H := c_howMany (m := us.length) (t := t) (ks := ks) (by omega)
  have kk := kn_uk ks
  have A := c_averageAsking (n := uk ks) (by omega) tq.1 tq.2 h0 h1
  have w1 : wr ((us.length : Int) - kn ks) = (uk ks : Int) := by rw [wr_id (by omega) (by omega)]; omega
  unfold avQ
  rw [c3, ← c2]
  simp only
  have ul : (us.map e2).length = us.length := by simp
  have kl : (k : Int) < us.length := by omega
  unfold pD pv at *
  rw [call_k lf n_impl_averagesOf_1 _ (F := F_impl_averagesOf_1) rfl rfl]
  generalize us.map e2 = U at *
  generalize c * 6 ^ uk ks + (6 - q) * no + q * yes = z at *
  generalize uk ks = u at *
  generalize kn ks = v at *
  generalize aN ks = a at *
  simp [F_impl_averagesOf_1, c1, ul, kl, H, A, w1]
theorem c_averagesOf (us : List T) : call lf n_impl_averagesOf [.sl 0 (us.map e2)] = some (.fn n_impl_averagesOf_1 [.adr (.sl 0 (us.map e2))], []) := by
  rw [call_k lf n_impl_averagesOf _ (F := F_impl_averagesOf) rfl rfl]
  simp [F_impl_averagesOf]
def stLsA (us t : List T) (ks : List Int) (b : Int × Int) (i : Nat) : LS :=
  ⟨[(1, .fn n_impl_averagesOf_1 [.adr (.sl 0 (us.map e2))]), (2, .oad 1056 1 0 0), (6, .i b.1), (7, .i b.2), (19, .i us.length), (20, .i i)], [(1056, [pD us.length t ks])]⟩
set_option maxHeartbeats 8000000 in
theorem c_leastFromA {us t : List T} (hu : us.all tOk = true) (hm : 1 ≤ us.length ∧ us.length ≤ 5) (ht : tmOk us.length t = true) : ∀ (f : Nat) (ks : List Int), f ≤ 5 → ks.length = us.length → ks.all kOk = true → uk ks ≤ f →
    call lf n_impl_leastFrom [pD us.length t ks, .fn n_impl_averagesOf_1 [.adr (.sl 0 (us.map e2))]] = some (.tup [.i (lsF us.length t (avQ us) f ks).1, .i (lsF us.length t (avQ us) f ks).2], [])
  | f, ks, hf5, hl, hk, hf => by
    have F := c_isForced ht hl hk
    cases hc : fcd us.length t ks with
    | true =>
      have e : lsF us.length t (avQ us) f ks = (-1, 0) := by
        cases f with
        | zero => rfl
        | succ f => simp only [lsF]; rw [if_pos hc]
      rw [e]
      rw [hc] at F
      unfold pD pv at *
      rw [call_k lf n_impl_leastFrom _ (F := F_impl_leastFrom) rfl rfl]
      simp [F_impl_leastFrom, F]
    | false =>
      cases f with
      | zero =>
        rw [fcd_all hl hk (by omega)] at hc
        cases hc
      | succ f =>
        rw [hc] at F
        have e : lsF us.length t (avQ us) (f + 1) ks = lsB (fun k => (avQ us) ks k (lsF us.length t (avQ us) f (ks.set k 0)).2 (lsF us.length t (avQ us) f (ks.set k 1)).2) ks us.length := by
          simp only [lsF]
          rw [if_neg (by rw [hc]; simp)]
        rw [e]
        have us' := fun (k : Nat) (hkk : ks[k]? = some (-1)) (b : Bool) => uk_set (b := bI b) (by cases b <;> simp [bI]) hkk
        have BD : ∀ (k : Nat) (b : Bool), ks[k]? = some (-1) → 0 ≤ (lsF us.length t (avQ us) f (ks.set k (bI b))).2 ∧ (lsF us.length t (avQ us) f (ks.set k (bI b))).2 ≤ 400000 := fun k b hkk => by
          have := us' k hkk b
          exact ⟨(lsF_bPl hu f (ks.set k (bI b)) (by simpa using hl) (kOk_set hk k b) (by omega)).1, by have := lsF_up (t := t) hu hm.2 (f := f) (ks := ks.set k (bI b)) (by simpa using hl) (kOk_set hk k b) (by omega) (by omega); omega⟩
        generalize hS : (fun k => (avQ us) ks k (lsF us.length t (avQ us) f (ks.set k 0)).2 (lsF us.length t (avQ us) f (ks.set k 1)).2) = S
        have LP := loop_count (lf := lf) (L := F_impl_leastFrom_L0) us.length (fun i => stLsA us t ks (lsB S ks i) i) (x := .exit 0) (R := stLsA us t ks (lsB S ks us.length) us.length) (fun i hi => by
          have C := c_canAsk (m := us.length) (t := t) (ks := ks) (by omega) hl (i : Int)
          have w1 : wr ((i : Int) + 1) = ((i + 1 : Nat) : Int) := by rw [wr_id (by omega) (by omega)]; omega
          have hi' : (i : Int) < (us.length : Int) := by omega
          have eb : lsB S ks (i + 1) = if ks[i]? = some (-1) then (if (lsB S ks i).1 = -1 ∨ S i < (lsB S ks i).2 then ((i : Int), S i) else lsB S ks i) else lsB S ks i := rfl
          have ca : caK us.length ks (i : Int) = decide (ks[i]? = some (-1)) := by
            unfold caK
            rw [decide_eq_true (show 0 ≤ (i : Int) ∧ (i : Int) < (us.length : Int) by omega), Int.toNat_natCast, Bool.true_and]
          rw [ca] at C
          rw [eb]
          by_cases hkk : ks[i]? = some (-1)
          · rw [if_pos hkk]
            rw [decide_eq_true hkk] at C
            have B0 := c_answered (m := us.length) (t := t) false (by omega) hk hkk
            have B1 := c_answered (m := us.length) (t := t) true (by omega) hk hkk
            have u0 := us' i hkk false
            have u1 := us' i hkk true
            have G0 := c_leastFromA hu hm ht f (ks.set i (bI false)) (by omega) (by simpa using hl) (kOk_set hk i false) (by omega)
            have G1 := c_leastFromA hu hm ht f (ks.set i (bI true)) (by omega) (by simpa using hl) (kOk_set hk i true) (by omega)
            have D0 := BD i false hkk
            have D1 := BD i true hkk
            rw [bI_0] at B0 G0 D0
            rw [bI_1] at B1 G1 D1
            have Pr := c_averagesOf_1 (us := us) (t := t) (ks := ks) hu hm.2 hl (k := i) hi (no := (lsF us.length t (avQ us) f (ks.set i 0)).2) (yes := (lsF us.length t (avQ us) f (ks.set i 1)).2) D0 D1
            have eS : S i = (avQ us) ks i (lsF us.length t (avQ us) f (ks.set i 0)).2 (lsF us.length t (avQ us) f (ks.set i 1)).2 := by rw [← hS]
            rw [← eS] at Pr
            clear BD hS eb
            generalize lsF us.length t (avQ us) f (ks.set i 0) = x at *
            generalize lsF us.length t (avQ us) f (ks.set i 1) = y at *
            obtain ⟨x1, x2⟩ := x
            obtain ⟨y1, y2⟩ := y
            generalize lsB S ks i = b at *
            obtain ⟨b1, b2⟩ := b
            generalize S i = s at *
            simp only at *
            unfold stLsA
            unfold pD pv at *
            by_cases hb : b1 = -1
            · rw [if_pos (.inl hb)]
              have hb' : (b1 == -1) = true := by simpa using hb
              subst hb
              simp [F_impl_leastFrom_L0, hi, hi', C, B0, B1, G0, G1, Pr, w1, -Int.natCast_add]
            · have hb' : (b1 == -1) = false := beq_eq_false_iff_ne.2 hb
              by_cases hlt : s < b2
              · rw [if_pos (.inr hlt)]
                simp [F_impl_leastFrom_L0, hi, hi', C, B0, B1, G0, G1, Pr, w1, hb', hlt, -Int.natCast_add]
              · rw [if_neg (by rintro (h | h); exact hb h; exact hlt h)]
                simp [F_impl_leastFrom_L0, hi, hi', C, B0, B1, G0, G1, Pr, w1, hb', hlt, -Int.natCast_add]
          · rw [if_neg hkk]
            rw [decide_eq_false hkk] at C
            clear BD hS eb
            generalize lsB S ks i = b at *
            unfold stLsA
            unfold pD pv at *
            simp [F_impl_leastFrom_L0, hi, hi', C, w1, -Int.natCast_add]) (by
          unfold stLsA
          unfold pD pv at *
          simp [F_impl_leastFrom_L0]) (by simp)
        have z : lsB S ks 0 = (-1, 0) := rfl
        rw [z] at LP
        unfold stLsA at LP
        simp only [Int.natCast_zero] at LP
        change ex lf F_impl_leastFrom_W0 _ = _ at LP
        clear BD hS
        unfold pD pv at *
        rw [call_k lf n_impl_leastFrom _ (F := F_impl_leastFrom) rfl rfl]
        generalize lsB S ks us.length = b at *
        simp [F_impl_leastFrom, F, LP]
end
section
attribute [-simp] DV.cells
attribute [local simp] sliceD cells_st cells_sl cells_i cells_y cells_b cells_s cells_w
attribute [local simp] lend_e3 adopt_e3 new_e3 al_e3 lt_e3
def rw3 (A B C : List DV) : List DV := [.sl 0 A, .sl 0 B, .sl 0 C]
def stC0 (X : List DV) (s : Int) (i : Nat) : LS := ⟨[(0, .sl 0 X), (3, .i s), (9, .sl 0 X), (10, .i 3), (11, .i i)], []⟩
def stC1 (X acc : List DV) (i : Nat) : LS := ⟨[(6, .own 12312 acc.length 0 acc.length), (25, .sl 0 X), (26, .i 3), (27, .i i)], [(12312, acc)]⟩
theorem cc_step0 {X es : List DV} {i : Nat} {s : Int} (h : atI X (i : Int) = some (.sl 0 es)) (hi : i < 3) (h0 : 0 ≤ s) (hb : s + es.length ≤ 1000000) :
    ex lf F_slices_Concat_impl_Choice_impl_Choice_L0 (stC0 X s i) = some (.normal, stC0 X (s + es.length) (i + 1)) := by
  have w1 : wr ((i : Int) + 1) = ((i + 1 : Nat) : Int) := by rw [wr_id (by omega) (by omega)]; omega
  have w2 : wr (s + (es.length : Int)) = s + es.length := wr_id (by omega) (by omega)
  have hi' : (i : Int) < 3 := by omega
  have ng : ¬ s + (es.length : Int) < 0 := by omega
  unfold stC0
  simp [F_slices_Concat_impl_Choice_impl_Choice_L0, hi', h, w1, w2, ng, -Int.natCast_add]
theorem cc_step1 {X es acc : List DV} {i : Nat} (h : atI X (i : Int) = some (.sl 0 es)) (hi : i < 3) (hb : acc.length + es.length ≤ 1000000) (hc : ∀ e ∈ es, e.cells.length = 3) :
    ex lf F_slices_Concat_impl_Choice_impl_Choice_L1 (stC1 X acc i) = some (.normal, stC1 X (acc ++ es) (i + 1)) := by
  have w1 : wr ((i : Int) + 1) = ((i + 1 : Nat) : Int) := by rw [wr_id (by omega) (by omega)]; omega
  have hi' : (i : Int) < 3 := by omega
  have lb : acc.length + es.length ≤ bound := by unfold bound; omega
  unfold stC1
  rw [List.length_append]
  simp [F_slices_Concat_impl_Choice_impl_Choice_L1, hi', h, w1, lb, if_pos hc, -Int.natCast_add]
set_option maxHeartbeats 4000000 in
theorem c_Concat {A B C : List DV} (hA : 0 < A.length) (hl : A.length + B.length + C.length ≤ 1000000) (cA : ∀ e ∈ A, e.cells.length = 3) (cB : ∀ e ∈ B, e.cells.length = 3) (cC : ∀ e ∈ C, e.cells.length = 3) :
    call lf n_slices_Concat_impl_Choice_impl_Choice [.sl 0 [.sl 0 A, .sl 0 B, .sl 0 C]] = some (.fr 3 (A ++ B ++ C), []) := by
  have a0 : atI (rw3 A B C) ((0 : Nat) : Int) = some (.sl 0 A) := rfl
  have a1 : atI (rw3 A B C) ((1 : Nat) : Int) = some (.sl 0 B) := rfl
  have a2 : atI (rw3 A B C) ((2 : Nat) : Int) = some (.sl 0 C) := rfl
  have L0 : ex lf F_slices_Concat_impl_Choice_impl_Choice_W0 (stC0 (rw3 A B C) 0 0) = some (.exit 0, stC0 (rw3 A B C) ((A.length : Int) + B.length + C.length) 3) := by
    rw [w_slices_Concat_impl_Choice_impl_Choice_0, cc_step0 a0 (by omega) (by omega) (by omega)]
    simp only
    rw [w_slices_Concat_impl_Choice_impl_Choice_0, cc_step0 a1 (by omega) (by omega) (by omega)]
    simp only
    rw [w_slices_Concat_impl_Choice_impl_Choice_0, cc_step0 a2 (by omega) (by omega) (by omega)]
    simp only
    rw [w_slices_Concat_impl_Choice_impl_Choice_0, Int.zero_add]
    unfold stC0
    generalize rw3 A B C = X
    simp [F_slices_Concat_impl_Choice_impl_Choice_L0]
  have L1 : ex lf F_slices_Concat_impl_Choice_impl_Choice_W1 (stC1 (rw3 A B C) [] 0) = some (.exit 2, stC1 (rw3 A B C) (A ++ B ++ C) 3) := by
    rw [w_slices_Concat_impl_Choice_impl_Choice_1, cc_step1 a0 (by omega) (by simp; omega) cA]
    simp only
    rw [w_slices_Concat_impl_Choice_impl_Choice_1, cc_step1 a1 (by omega) (by simp; omega) cB]
    simp only
    rw [w_slices_Concat_impl_Choice_impl_Choice_1, cc_step1 a2 (by omega) (by simp; omega) cC]
    simp only
    rw [w_slices_Concat_impl_Choice_impl_Choice_1, List.nil_append]
    unfold stC1
    generalize rw3 A B C = X
    simp [F_slices_Concat_impl_Choice_impl_Choice_L1]
  have G : call lf n_slices_Grow_impl_Choice_impl_Choice [.nil, .i ((A.length : Int) + B.length + C.length)] = some (.fr 3 [], []) := by
    rw [call_prim lf n_slices_Grow_impl_Choice_impl_Choice _ (F := F_slices_Grow_impl_Choice_impl_Choice) rfl rfl, grow_k, if_pos]
    unfold bound
    omega
  have rl : (rw3 A B C).length = 3 := rfl
  show call lf n_slices_Concat_impl_Choice_impl_Choice [.sl 0 (rw3 A B C)] = _
  rw [call_k lf n_slices_Concat_impl_Choice_impl_Choice _ (F := F_slices_Concat_impl_Choice_impl_Choice) rfl rfl]
  unfold stC0 at L0
  unfold stC1 at L1
  simp only [Int.natCast_zero, List.length_nil] at L0 L1
  generalize rw3 A B C = X at *
  generalize (A.length : Int) + B.length + C.length = n at *
  generalize A ++ B ++ C = Y at *
  simp [F_slices_Concat_impl_Choice_impl_Choice, L0, L1, G, rl]
/-- a choice, and what lies behind its answers -/
def lay3 (k place : Nat) (N Y : List C3) : List C3 := ((k : Int), (if N = [] then -1 else (place : Int) + 1), (if Y = [] then -1 else (place : Int) + 1 + N.length)) :: (N ++ Y)
theorem lay_ser (k place : Nat) (n y : PT) : lay3 k place (ser n (place + 1)) (ser y (place + 1 + n.size)) = ser (.ask k n y) place := by
  unfold lay3
  simp only [ser]
  congr 2
  · congr 1
    · cases n with
      | stop => simp [ser, rt]
      | ask a b c => simp [ser, rt]
    · cases y with
      | stop => simp [ser, rt]
      | ask a b c => simp [ser, rt, ser_len]
theorem cells_e3 (P : List C3) : ∀ e ∈ P.map e3, e.cells.length = 3 := fun e he => by
  obtain ⟨x, _, rfl⟩ := List.mem_map.1 he
  rfl
set_option maxHeartbeats 8000000 in
theorem pf_stepB {m : Nat} {t : List T} {us : List T} {ks : List Int} {k place : Nat} (ht : tmOk m t = true) (hm : m ≤ 5) (hl : ks.length = m) (hk : ks.all kOk = true) (hc : fcd m t ks = false) (hkk : ks[k]? = some (-1)) {N Y : List C3} (hb : place + 1 + N.length + Y.length ≤ 100)
    (CA : call lf n_impl_BestPlan_1 ([pD m t ks] ++ [.adr (.fn n_impl_averagesOf_1 [.adr (.sl 0 (us.map e2))])]) = some (.i k, []))
    (R0 : call lf n_impl_planFrom [pD m t (ks.set k 0), .i ((place + 1 : Nat) : Int), .fn n_impl_BestPlan_1 [.adr (.fn n_impl_averagesOf_1 [.adr (.sl 0 (us.map e2))])]] = some (.fr 3 (N.map e3), []))
    (R1 : call lf n_impl_planFrom [pD m t (ks.set k 1), .i ((place + 1 + N.length : Nat) : Int), .fn n_impl_BestPlan_1 [.adr (.fn n_impl_averagesOf_1 [.adr (.sl 0 (us.map e2))])]] = some (.fr 3 (Y.map e3), [])) :
    call lf n_impl_planFrom [pD m t ks, .i place, .fn n_impl_BestPlan_1 [.adr (.fn n_impl_averagesOf_1 [.adr (.sl 0 (us.map e2))])]] = some (.fr 3 ((lay3 k place N Y).map e3), []) := by
  have F := c_isForced ht hl hk
  rw [hc] at F
  have B0 := c_answered (m := m) (t := t) false (by omega) hk hkk
  have B1 := c_answered (m := m) (t := t) true (by omega) hk hkk
  rw [bI_0] at B0
  rw [bI_1] at B1
  have w1 : wr ((place : Int) + 1) = ((place + 1 : Nat) : Int) := by rw [wr_id (by omega) (by omega)]; omega
  have w2 : wr (((place + 1 : Nat) : Int) + (N.length : Int)) = ((place + 1 + N.length : Nat) : Int) := by rw [wr_id (by omega) (by omega)]; omega
  have cN := cells_e3 N
  have cY := cells_e3 Y
  have lN : (N.map e3).length = N.length := by simp
  have lY : (Y.map e3).length = Y.length := by simp
  have eN := lend_e3 N
  have eY := lend_e3 Y
  have aN' := fun x => adopt_e3 x N
  have aY' := fun x => adopt_e3 x Y
  have nN := new_e3 N
  have nY := new_e3 Y
  have CC := fun (a b : Int) => c_Concat (A := [.st [.i k, .i a, .i b]]) (B := N.map e3) (C := Y.map e3) (by simp) (by simp; omega) (fun e he => by
    have : e = .st [.i k, .i a, .i b] := by simpa using he
    rw [this]; rfl) cN cY
  have fin : (lay3 k place N Y).map e3 = [.st [.i k, .i (if N = [] then -1 else ((place + 1 : Nat) : Int)), .i (if Y = [] then -1 else ((place + 1 + N.length : Nat) : Int))]] ++ N.map e3 ++ Y.map e3 := by
    unfold lay3
    simp [e3]
  rw [fin]
  have tN : List.take N.length (N.map e3) = N.map e3 := List.take_of_length_le (by simp)
  have tY : List.take Y.length (Y.map e3) = Y.map e3 := List.take_of_length_le (by simp)
  rw [call_k lf n_impl_planFrom _ (F := F_impl_planFrom) rfl rfl]
  unfold pD pv at *
  simp only [List.cons_append, List.nil_append] at CA
  have gN : 0 < N.length ↔ N ≠ [] := List.length_pos_iff
  have gY : 0 < Y.length ↔ Y ≠ [] := List.length_pos_iff
  by_cases hN : N = []
  · have pN : ¬ 0 < N.length := fun h => gN.1 h hN
    rw [if_pos hN]
    by_cases hY : Y = []
    · have pY : ¬ 0 < Y.length := fun h => gY.1 h hY
      rw [if_pos hY]
      clear hN hY gN gY fin
      generalize N.map e3 = M at *
      generalize Y.map e3 = Q at *
      generalize N.length = n at *
      generalize Y.length = y at *
      simp [F_impl_planFrom, F, CA, B0, B1, R0, R1, w1, w2, pN, pY, CC, lN, lY, eN, eY, aN', aY', nN, nY, tN, tY, if_pos cN, if_pos cY, -Int.natCast_add]
    · have pY : 0 < Y.length := gY.2 hY
      rw [if_neg hY]
      clear hN hY gN gY fin
      generalize N.map e3 = M at *
      generalize Y.map e3 = Q at *
      generalize N.length = n at *
      generalize Y.length = y at *
      simp [F_impl_planFrom, F, CA, B0, B1, R0, R1, w1, w2, pN, pY, CC, lN, lY, eN, eY, aN', aY', nN, nY, tN, tY, if_pos cN, if_pos cY, -Int.natCast_add]
  · have pN : 0 < N.length := gN.2 hN
    rw [if_neg hN]
    by_cases hY : Y = []
    · have pY : ¬ 0 < Y.length := fun h => gY.1 h hY
      rw [if_pos hY]
      clear hN hY gN gY fin
      generalize N.map e3 = M at *
      generalize Y.map e3 = Q at *
      generalize N.length = n at *
      generalize Y.length = y at *
      simp [F_impl_planFrom, F, CA, B0, B1, R0, R1, w1, w2, pN, pY, CC, lN, lY, eN, eY, aN', aY', nN, nY, tN, tY, if_pos cN, if_pos cY, -Int.natCast_add]
    · have pY : 0 < Y.length := gY.2 hY
      rw [if_neg hY]
      clear hN hY gN gY fin
      generalize N.map e3 = M at *
      generalize Y.map e3 = Q at *
      generalize N.length = n at *
      generalize Y.length = y at *
      simp [F_impl_planFrom, F, CA, B0, B1, R0, R1, w1, w2, pN, pY, CC, lN, lY, eN, eY, aN', aY', nN, nY, tN, tY, if_pos cN, if_pos cY, -Int.natCast_add]
theorem pf_stopB {m : Nat} {t : List T} {us : List T} {ks : List Int} {place : Nat} (ht : tmOk m t = true) (hl : ks.length = m) (hk : ks.all kOk = true) (hc : fcd m t ks = true) :
    call lf n_impl_planFrom [pD m t ks, .i place, .fn n_impl_BestPlan_1 [.adr (.fn n_impl_averagesOf_1 [.adr (.sl 0 (us.map e2))])]] = some (.fr 3 [], []) := by
  have F := c_isForced ht hl hk
  rw [hc] at F
  rw [call_k lf n_impl_planFrom _ (F := F_impl_planFrom) rfl rfl]
  unfold pD pv at *
  simp [F_impl_planFrom, F]
end
section
attribute [-simp] DV.cells
attribute [local simp] sliceD cells_st cells_sl cells_i cells_y cells_b cells_s cells_w
attribute [local simp] lend_e3 adopt_e3 new_e3 al_e3 lt_e3
theorem lsF_root {us t : List T} (h : us.all tOk = true) : (lsF us.length t (avQ us) us.length (non us.length)).2 = bA us t := by
  obtain ⟨_, a2, _⟩ := lsF_bPl h (t := t) us.length (non us.length) (non_len _) (non_all _) (by rw [uk_non]; exact Nat.le_refl _)
  rw [kp_non, Int.one_mul] at a2
  exact a2
set_option maxHeartbeats 4000000 in
theorem c_impl_BestAverage (us t : List T) (ha : (us.length : Int) < 1099511627776) (hb : (t.length : Int) < 1099511627776) : call lf n_impl_BestAverage [.sl 0 (us.map e2), .sl 0 (t.map e2)] = some (.i (baOf us t), []) := by
  have C1 := c_impl_TestsOk us ha
  have C2 := c_impl_TermOk us.length t hb
  have ul : (us.map e2).length = us.length := by simp
  rw [call_k lf n_impl_BestAverage _ (F := F_impl_BestAverage) rfl rfl]
  unfold baOf
  cases h1 : tsOk us with
  | false => rw [h1] at C1; simp [F_impl_BestAverage, C1]
  | true =>
    rw [h1] at C1
    have h' := tsOk_iff.1 h1
    cases h2 : tmOk us.length t with
    | false => rw [h2] at C2; simp [F_impl_BestAverage, C1, C2]
    | true =>
      rw [h2] at C2
      have C3 := c_startOf (t := t) (by omega) h2
      have C4 := c_averagesOf us
      have C5 := c_leastFromA h'.2 (by omega) h2 us.length (non us.length) (by omega) (non_len _) (non_all _) (by rw [uk_non]; exact Nat.le_refl _)
      rw [lsF_root h'.2] at C5
      generalize (lsF us.length t (avQ us) us.length (non us.length)).1 = x at *
      unfold pD pv at *
      simp [F_impl_BestAverage, C1, C2, C3, C4, C5]
set_option maxHeartbeats 4000000 in
theorem c_BestPlan_1 {us t : List T} (hu : us.all tOk = true) (hm : 1 ≤ us.length ∧ us.length ≤ 5) (ht : tmOk us.length t = true) {f : Nat} {ks : List Int} (hf5 : f ≤ 5) (hl : ks.length = us.length) (hk : ks.all kOk = true) (hf : uk ks ≤ f) :
    call lf n_impl_BestPlan_1 [pD us.length t ks, .adr (.fn n_impl_averagesOf_1 [.adr (.sl 0 (us.map e2))])] = some (.i (bPl us t f ks).2, []) := by
  have C := c_leastFromA hu hm ht f ks hf5 hl hk hf
  rw [(lsF_bPl hu f ks hl hk hf).2.2] at C
  rw [call_k lf n_impl_BestPlan_1 _ (F := F_impl_BestPlan_1) rfl rfl]
  generalize (lsF us.length t (avQ us) f ks).2 = x at *
  unfold pD pv at *
  simp [F_impl_BestPlan_1, C]
theorem bT_pf {us t : List T} (hu : us.all tOk = true) (hm : 1 ≤ us.length ∧ us.length ≤ 5) (ht : tmOk us.length t = true) : ∀ (f : Nat) (ks : List Int) (place : Nat), f ≤ 5 → ks.length = us.length → ks.all kOk = true → uk ks ≤ f → place + (bT us t f ks).size ≤ 40 →
    call lf n_impl_planFrom [pD us.length t ks, .i place, .fn n_impl_BestPlan_1 [.adr (.fn n_impl_averagesOf_1 [.adr (.sl 0 (us.map e2))])]] = some (.fr 3 ((ser (bT us t f ks) place).map e3), [])
  | f, ks, place, hf5, hl, hk, hf, hp => by
    have B := bPl_ok (t := t) hu f ks hl hk hf
    cases hc : fcd us.length t ks with
    | true =>
      have e : bT us t f ks = .stop := by
        cases f with
        | zero => rfl
        | succ f => simp only [bT]; rw [B.stop hc, if_pos rfl]
      rw [e]
      exact pf_stopB ht hl hk hc
    | false =>
      cases f with
      | zero =>
        rw [fcd_all hl hk (by omega)] at hc
        cases hc
      | succ f =>
        obtain ⟨k, k1, k2, _, _⟩ := B.go hc
        have hn : (bPl us t (f + 1) ks).2 ≠ -1 := by omega
        have e : bT us t (f + 1) ks = .ask k (bT us t f (ks.set k 0)) (bT us t f (ks.set k 1)) := by
          simp only [bT]
          rw [if_neg hn, k2, Int.toNat_natCast]
        have CA := c_BestPlan_1 hu hm ht hf5 hl hk hf
        rw [k2] at CA
        rw [e] at hp ⊢
        simp only [PT.size] at hp
        have us' := fun (b : Bool) => uk_set (b := bI b) (by cases b <;> simp [bI]) k1
        have u0 := us' false
        have u1 := us' true
        rw [bI_0] at u0
        rw [bI_1] at u1
        have G0 := bT_pf hu hm ht f (ks.set k 0) (place + 1) (by omega) (by simpa using hl) (kOk_set hk k false) (by omega) (by omega)
        have G1 := bT_pf hu hm ht f (ks.set k 1) (place + 1 + (bT us t f (ks.set k 0)).size) (by omega) (by simpa using hl) (kOk_set hk k true) (by omega) (by omega)
        have l0 := ser_len (bT us t f (ks.set k 0)) (place + 1)
        have l1 := ser_len (bT us t f (ks.set k 1)) (place + 1 + (bT us t f (ks.set k 0)).size)
        rw [← lay_ser]
        exact pf_stepB ht hm.2 hl hk hc k1 (by omega) CA G0 (by rw [l0]; exact G1)
set_option maxHeartbeats 4000000 in
theorem c_impl_BestPlan (us t : List T) (ha : (us.length : Int) < 1099511627776) (hb : (t.length : Int) < 1099511627776) : call lf n_impl_BestPlan [.sl 0 (us.map e2), .sl 0 (t.map e2)] = some (.tup [.fr 3 ((bpL us t).map e3), .b (bpOk us t)], []) := by
  have C1 := c_impl_TestsOk us ha
  have C2 := c_impl_TermOk us.length t hb
  have ul : (us.map e2).length = us.length := by simp
  rw [call_k lf n_impl_BestPlan _ (F := F_impl_BestPlan) rfl rfl]
  unfold bpL bpOk
  cases h1 : tsOk us with
  | false => rw [h1] at C1; simp [F_impl_BestPlan, C1]
  | true =>
    rw [h1] at C1
    have h' := tsOk_iff.1 h1
    cases h2 : tmOk us.length t with
    | false => rw [h2] at C2; simp [F_impl_BestPlan, C1, C2]
    | true =>
      rw [h2] at C2
      have hm : 1 ≤ us.length ∧ us.length ≤ 5 := by omega
      have C3 := c_startOf (t := t) hm.2 h2
      have C4 := c_averagesOf us
      have z := okT_size hm.2 (bX_ok (t := t) h'.2).1
      have C5 := bT_pf h'.2 hm h2 us.length (non us.length) 0 hm.2 (non_len _) (non_all _) (by rw [uk_non]; exact Nat.le_refl _) (by have : bT us t us.length (non us.length) = bX us t := rfl; rw [this]; omega)
      have e : bT us t us.length (non us.length) = bX us t := rfl
      rw [e] at C5
      have n3 := adopt_e3
      have nw := new_e3 (ser (bX us t) 0)
      have ad := fun x => adopt_e3 x (ser (bX us t) 0)
      simp only [Int.natCast_zero] at C5
      rw [Bool.and_self, if_pos rfl]
      generalize ser (bX us t) 0 = Q at *
      have lQ : (Q.map e3).length = Q.length := by simp
      have tk := tk_e3 Q
      generalize Q.map e3 = M at *
      unfold pD pv at *
      have cf : ∀ (f : Nat) (cs : List DV), (DV.fn f cs).cells = [.fn f cs] := fun _ _ => rfl
      have cd : DV.dead.cells = [.dead] := rfl
      simp [F_impl_BestPlan, C1, C2, C3, C4, C5, nw, ad, tk, lQ, cf, cd]
end
section
attribute [-simp] DV.cells
attribute [local simp] sliceD cells_st cells_sl cells_i cells_y cells_b cells_s cells_w
attribute [local simp] lend_e3 adopt_e3 new_e3 al_e3 lt_e3
def nm1 (d : Nat → Bool) (i k : Nat) (u : T) : T := if (decide (k < i) && d k) = true then (10 - u.1, u.2) else u
def nmL (us : List T) (d : Nat → Bool) (i : Nat) : List T := us.mapIdx (nm1 d i)
theorem nmL_len (us : List T) (d : Nat → Bool) (i : Nat) : (nmL us d i).length = us.length := by simp [nmL]
theorem nmL_at {us : List T} {d : Nat → Bool} {i k : Nat} : (nmL us d i)[k]? = (us[k]?).map (nm1 d i k) := by simp [nmL]
theorem nmL_zero (us : List T) (d : Nat → Bool) : nmL us d 0 = us := by
  apply List.ext_getElem?
  intro k
  rw [nmL_at]
  cases us[k]? <;> simp [nm1]
theorem nmL_set {us : List T} {d : Nat → Bool} {i : Nat} {c q : Int} (h : us[i]? = some (c, q)) : nmL us d (i + 1) = if d i then (nmL us d i).set i (10 - c, q) else nmL us d i := by
  have hlt := (List.getElem?_eq_some_iff.1 h).1
  apply List.ext_getElem?
  intro k
  by_cases e : k = i
  · subst e
    rw [nmL_at, h]
    cases hd : d k with
    | true =>
      rw [if_pos rfl, List.getElem?_set_self (by rw [nmL_len]; exact hlt)]
      simp [nm1, hd]
    | false =>
      rw [if_neg (by simp), nmL_at, h]
      simp [nm1, hd]
  · have key : (nmL us d (i + 1))[k]? = (nmL us d i)[k]? := by
      rw [nmL_at, nmL_at]
      have w : decide (k < i + 1) = decide (k < i) := decide_eq_decide.2 (by omega)
      unfold nm1
      rw [w]
    rw [key]
    cases hd : d i with
    | true => rw [if_pos rfl, List.getElem?_set_ne (fun h => e h.symm)]
    | false => rw [if_neg (by simp)]
theorem wk_snd : ∀ {us vs : List T} (ks : List Int), vs.map Prod.snd = us.map Prod.snd → wk vs ks = wk us ks
  | [], [], _, _ => rfl
  | [], _ :: _, _, h => by simp at h
  | _ :: _, [], _, h => by simp at h
  | u :: us, v :: vs, [], _ => rfl
  | u :: us, v :: vs, k :: ks, h => by
    simp only [List.map_cons, List.cons.injEq] at h
    show (if k = -1 then 6 else if k = 1 then v.2 else 6 - v.2) * wk vs ks = (if k = -1 then 6 else if k = 1 then u.2 else 6 - u.2) * wk us ks
    rw [wk_snd ks h.2, h.1]
theorem nmL_snd (us : List T) (d : Nat → Bool) (i : Nat) : (nmL us d i).map Prod.snd = us.map Prod.snd := by
  apply List.ext_getElem?
  intro k
  rw [List.getElem?_map, List.getElem?_map, nmL_at]
  cases us[k]? with
  | none => rfl
  | some u => simp only [Option.map_some, nm1]; split <;> rfl
theorem nmL_ok {us : List T} (h : tsOk us = true) (d : Nat → Bool) (i : Nat) : tsOk (nmL us d i) = true := by
  have h' := tsOk_iff.1 h
  refine tsOk_iff.2 ⟨by rw [nmL_len]; exact h'.1, List.all_eq_true.2 fun v hv => ?_⟩
  obtain ⟨k, hk⟩ := List.mem_iff_getElem?.1 hv
  rw [nmL_at] at hk
  cases hu : us[k]? with
  | none => rw [hu] at hk; cases hk
  | some u =>
    rw [hu] at hk
    simp only [Option.map_some, Option.some.injEq] at hk
    have tu := tOk_iff.1 (List.all_eq_true.1 h'.2 u (List.mem_of_getElem? hu))
    rw [← hk]
    unfold nm1
    split
    · exact tOk_iff.2 ⟨by simp only; omega, tu.2⟩
    · exact tOk_iff.2 tu
theorem nmL_cA {us : List T} {d : Nat → Bool} {i k : Nat} (h : k < us.length → d k = false) : cA (nmL us d i) k = cA us k := by
  unfold cA
  rw [List.getD_eq_getElem?_getD, List.getD_eq_getElem?_getD, nmL_at]
  cases hu : us[k]? with
  | none => rfl
  | some u =>
    have hd := h (List.getElem?_eq_some_iff.1 hu).1
    simp [nm1, hd]
def stNm (us t : List T) (n : Int) (id : Nat) (vs : List T) (i : Nat) : LS :=
  ⟨[(3, .sl 1 (us.map e2)), (4, .own 8210 t.length 0 t.length), (5, .i n), (6, .i id), (7, .own 14864 us.length 0 us.length), (8, .i i)], [(8210, t.map e2), (14864, vs.map e2)]⟩
set_option maxHeartbeats 4000000 in
theorem nm_loop {us t : List T} (hu : tsOk us = true) (n : Int) {id : Nat} {d : Nat → Bool} (hd : ∀ k, k < us.length → id.testBit k = d k) :
    ex lf F_laws_FnNoMatter_W0 (stNm us t n id us 0) = some (.exit 0, stNm us t n id (nmL us d us.length) us.length) := by
  have hu' := tsOk_iff.1 hu
  have L := loop_count (lf := lf) (L := F_laws_FnNoMatter_L0) us.length (fun i => stNm us t n id (nmL us d i) i) (x := .exit 0) (R := stNm us t n id (nmL us d us.length) us.length) (fun i hi => by
    have hi' : (i : Int) < us.length := by omega
    obtain ⟨c, q, c1, c2, c3⟩ := cA_at (us := us) (a := (i : Int)) (by omega) hi'
    rw [Int.toNat_natCast] at c3
    have hat : us[i]? = some (c, q) := by
      have e : us.getD i (0, 0) = us[i] := by simp [List.getD, hi]
      rw [List.getElem?_eq_getElem hi, ← e, c3]
    have tq := tOk_iff.1 (List.all_eq_true.1 hu'.2 (c, q) (List.mem_of_getElem? hat))
    simp only at tq
    have w1 : wr ((i : Int) + 1) = ((i + 1 : Nat) : Int) := by rw [wr_id (by omega) (by omega)]; omega
    have w2 : wr (10 - c) = 10 - c := wr_id (by omega) (by omega)
    have bb := bit_bI (a := id) (s := i) (by omega)
    rw [hd i hi] at bb
    have ni : ¬ (i : Int) < 0 := by omega
    have ll := nmL_len us d i
    have lm : ((nmL us d i).map e2).length = us.length := by simp [ll]
    have um : (us.map e2).length = us.length := by simp
    have st := nmL_set (d := d) hat
    obtain ⟨v, hv⟩ : ∃ v, (nmL us d i)[i]? = some v := ⟨(nmL us d i)[i]'(by omega), List.getElem?_eq_getElem (by omega)⟩
    have at2 : atN ((nmL us d i).map e2) i = some (.st [.i v.1, .i v.2]) := by
      show ((nmL us d i).map e2)[i]? = _
      rw [List.getElem?_map, hv]; rfl
    rw [st]
    cases hk : d i with
    | true =>
      rw [hk, bI_1] at bb
      have e2' : e2 (10 - c, q) = .st [.i (10 - c), .i q] := rfl
      rw [if_pos rfl]
      unfold stNm
      rw [List.map_set, e2']
      generalize (nmL us d i).map e2 = M at *
      generalize us.map e2 = U at *
      simp [F_laws_FnNoMatter_L0, hi, hi', bb, ni, w1, w2, c1, lm, um, at2, -Int.natCast_add]
    | false =>
      rw [hk, bI_0] at bb
      rw [if_neg (by simp)]
      unfold stNm
      generalize (nmL us d i).map e2 = M at *
      generalize us.map e2 = U at *
      simp [F_laws_FnNoMatter_L0, hi, hi', bb, ni, w1, lm, um, -Int.natCast_add]) (by
    unfold stNm
    simp [F_laws_FnNoMatter_L0, nmL_len]) (by simp)
  rw [nmL_zero] at L
  exact L
set_option maxHeartbeats 8000000 in
theorem law_FnNoMatter (x : List Nat) (_ : x.length ≤ Go.maxLen) (hb : ∀ y ∈ x, y < 256) : call lf n_laws_FnNoMatter [bys x] = some (.b true, []) := by
  show call lf n_laws_FnNoMatter [.sl 0 (x.map .y)] = _
  rw [call_k lf n_laws_FnNoMatter _ (F := F_laws_FnNoMatter) rfl rfl]
  by_cases hl : 1048576 < (x.length : Int)
  · simp (config := { maxSteps := 2000000 }) [F_laws_FnNoMatter, hl]
  · obtain ⟨us, t, u1, t1, d⟩ := c_DrawBestPlan hb (by omega)
    have D1 := c_impl_BestAverage us t (by omega) (by omega)
    have lb0 : us.length ≤ bound := by unfold bound; omega
    have lb1 : t.length ≤ bound := by unfold bound; omega
    have um : (us.map e2).length = us.length := by simp
    have lu := lend_e2 us
    cases h : tsOk us && tmOk us.length t with
    | false =>
      have e : baOf us t = -1 := by unfold baOf; rw [h]; rfl
      rw [e] at D1
      simp (config := { maxSteps := 2000000 }) [F_laws_FnNoMatter, hl, d, D1, c_alive]
    | true =>
      have e0 : baOf us t = bA us t := by unfold baOf; rw [h]; rfl
      rw [e0] at D1
      rw [Bool.and_eq_true] at h
      obtain ⟨hu, ht⟩ := h
      have hu' := tsOk_iff.1 hu
      have o := bX_ok (t := t) hu'.2
      have n0 := tA_nn (t := t) hu'.2 (bX us t) (non us.length)
      rw [o.2] at n0
      have n0' : ¬ bA us t < 0 := by omega
      have D2 := c_impl_IdleTests us.length t (by omega)
      have ei : idOf us.length t = (tabN (idP us.length t) us.length : Nat) := by unfold idOf; rw [ht, Int.toNat_natCast]; rfl
      rw [ei] at D2
      have hd : ∀ k, k < us.length → (tabN (idP us.length t) us.length).testBit k = idP us.length t k := fun k hk => by rw [tabN_bit, decide_eq_true hk, Bool.true_and]
      have L := nm_loop (t := t) hu (bA us t) hd
      have vo := nmL_ok hu (idP us.length t) us.length
      have vl := nmL_len us (idP us.length t) us.length
      have vo' := tsOk_iff.1 vo
      obtain ⟨q1, q2⟩ := bA_idle (t := t) hu'.2 vo'.2 vl (fun ks => wk_snd ks (nmL_snd us _ _)) (fun k hk hi => nmL_cA fun _ => hi) (fun k hk => nmL_cA fun h => absurd h hk)
      have tmv : tmOk (nmL us (idP us.length t) us.length).length t = true := by rw [vl]; exact ht
      have D3 := c_impl_BestPlan (nmL us (idP us.length t) us.length) t (by omega) (by omega)
      have D4 := c_impl_BestAverage (nmL us (idP us.length t) us.length) t (by omega) (by omega)
      have e4' : baOf (nmL us (idP us.length t) us.length) t = bA us t := by unfold baOf; rw [vo, tmv, ← q1]; rfl
      rw [e4'] at D4
      have eb : bpOk (nmL us (idP us.length t) us.length) t = true := by unfold bpOk; rw [vo, tmv]; rfl
      have ep : bpL (nmL us (idP us.length t) us.length) t = ser (bX (nmL us (idP us.length t) us.length) t) 0 := by unfold bpL; rw [eb]; rfl
      rw [eb, ep] at D3
      have ok := (bX_ok (t := t) vo'.2).1
      rw [vl] at ok
      have hP := ser_pl (m := us.length) (t := t) (by omega) ok
      have D5 := c_impl_AverageBy hu ht hP
      rw [lab_er, q2] at D5
      have z := hP.few
      have tk := tk_e3 (ser (bX (nmL us (idP us.length t) us.length) t) 0)
      have vm : ((nmL us (idP us.length t) us.length).map e2).length = us.length := by simp [vl]
      have lv := lend_e2 (nmL us (idP us.length t) us.length)
      generalize ser (bX (nmL us (idP us.length t) us.length) t) 0 = Q at *
      have lQ : (Q.map e3).length = Q.length := by simp
      have nQ := new_e3 Q
      have aQ := fun x => adopt_e3 x Q
      have leQ := lend_e3 Q
      generalize Q.map e3 = M at *
      generalize tabN (idP us.length t) us.length = id at *
      generalize nmL us (idP us.length t) us.length = vs at *
      generalize bA us t = a at *
      unfold stNm at L
      simp only [Int.natCast_zero] at L
      have tv : List.take us.length (vs.map e2) = vs.map e2 := List.take_of_length_le (by simp [vl])
      have tu : List.take us.length (us.map e2) = us.map e2 := List.take_of_length_le (by simp)
      have w2 : ∀ e ∈ us.map e2, e.cells.length = 2 := fun e he => by
        obtain ⟨y, _, rfl⟩ := List.mem_map.1 he
        rfl
      simp (config := { maxSteps := 2000000 }) [F_laws_FnNoMatter, hl, d, D1, D2, D3, D4, D5, L, n0', lb0, lb1, um, vm, tv, tu, tk, lQ, nQ, aQ, leQ, if_pos w2, vl, c_alive]
end
end Zz
