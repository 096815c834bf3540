/- What the functions answer, as equations: XA. No conditions. -/
import Derived.Test.YtkeooaonbgablaaEA
set_option linter.unusedSectionVars false
set_option linter.unusedVariables false
set_option linter.unusedSimpArgs false
namespace Zz
open Go.Lg Md
set_option linter.unusedSimpArgs false
set_option linter.unusedVariables false
attribute [local simp] ia_mv ia_newnil ia_pick ia_bin ia_eqb ia_eqs ia_un ia_len ia_lens ia_chk ia_fld ia_fldv ia_idxa ia_idx ia_load ia_store ia_slice ia_slices ia_make ia_alloc ia_box ia_build ia_bslice ia_app ia_b2i ia_i2b ia_i2i ia_same ia_b2s ia_s2b ia_ext ia_mm ia_idxp ia_calld ia_mkfn ia_i2r ia_r2s ia_call pt_nil pt_cons mi_nil mi_cons md_bslice md_mv md_newnil md_pick md_bin md_eqb md_un md_len md_lens md_fld md_fldv md_idxa md_idx md_load md_store md_slice md_slices md_make md_alloc md_box md_build md_app md_conv md_ext md_call md_calld md_callg md_mkfn md_mm md_idxp md_eqn md_eqs md_chk tg_bslice tg_mv tg_newnil tg_pick tg_bin tg_eqb tg_un tg_len tg_lens tg_fld tg_fldv tg_idxa tg_idx tg_load tg_store tg_slice tg_slices tg_make tg_alloc tg_box tg_build tg_app tg_conv tg_ext tg_call tg_calld tg_callg tg_mkfn tg_mm tg_idxp tg_eqn tg_eqs tg_chk rp_eq ro_eq ifP_t ifP_f np_def ng1_nil ng2_nil ng_gate ng_gen tgA_t tgA_0 tgA_1 tgA_2 aC_nil aC_c aC_t nxP_some nxP_none rq_nil rq_gen rq_gate nxR_some nxR_none ru_nil ru_gen ru_gate pl_none pl_some gt_nil gt_t gt_c di_some di_none an_nil an_cons nxG_some nxG_none rg_nil rg_gen rg_gate oldO_some oa_nil oa_i oa_y oa_b oa_s oa_st oa_sl oa_own oa_oad oa_nl al_nil al_cons al_i al_y al_b al_s al_st al_sl nxF_some nxF_none rf_nil rf_gen rf_gate hk_newnil hk_make hk_alloc hk_box hk_build hk_bslice hk_call hk_store hk_app cl_nil cl_cons ai_nil ai_cons il_i il_y il_b il_s il_st il_sl il_own il_adr il_oad il_ref il_fr il_tup il_nil il_np il_und il_dead ol_adr ol_b ol_dead ol_e ol_fn ol_fr ol_i ol_nil ol_np ol_oad ol_own ol_q ol_r ol_ref ol_s ol_sl ol_st ol_tup ol_und ol_w ol_y oj_e oj_i oj_y oj_b oj_s oj_st oj_sl oj_own oj_adr oj_oad oj_ref oj_fr oj_tup oj_nil oj_np oj_und oj_dead oj_w oj_q oj_r oj_fn oi_e oi_i oi_y oi_b oi_s oi_st oi_sl oi_own oi_adr oi_oad oi_ref oi_fr oi_tup oi_nil oi_np oi_und oi_dead as_nil as_cons ao_nil ao_cons av_i av_y av_b av_s av_st av_sl av_own av_adr av_oad av_ref av_fr av_tup av_nil av_np av_und av_dead pro_cons ghK_some ks_promote ks_freeze frz_own ks_rename ren_own dropO adoptP newP wholeP cutP allOldL ex_skip ex_ret ex_exit ks_region ks_seq ks_cond ks_block seqK_n seqK_e seqK_r regK_some condK_t condK_f blkK_n blkK_r blkK_e endK_n endK_r rr_false rr_true rd_free mo_nil mo_cons drK_some drK_none nxW_some nxW_none rw_nil rw_gen rw_gate ak_newnil ak_make ak_alloc ak_box ak_build ak_bslice ak_call ak_store ak_app iw_mm iw_eqn iw_idxp ef_callg cgK_some gv_e gv_own gv_i gv_sl gv_st gv_b gv_nil gvK_some gvO_some iw_callg ia_callg ak_callg hk_callg is_mv is_newnil is_pick is_bin is_eqb is_eqs is_un is_len is_lens is_chk is_fld is_fldv is_idxa is_idx is_load is_slice is_slices is_make is_alloc is_box is_build is_bslice is_app is_conv is_ext is_call is_calld is_callg is_mkfn is_mm is_idxp is_eqn is_store rt_nil rt_gen rt_gate nxT_some nxT_none ef_eqn_nil ef_eqn_sl ef_eqn_own ia_eqn ef_mmx ef_mmn ef_idxp nxD_some nxD_none ov_i ov_y ov_b ov_s ov_st ov_sl ov_own ov_oad ov_adr ov_nil ov_np ov_und ov_dead ov_tup oldN_some oldN_nil oldN_none so_none so_i so_y so_b so_s so_st so_sl so_adr so_nil so_np so_und so_dead anyM_nil anyM_t anyM_c so_own so_oad rd_nil rd_gen rd_mv rd_gate iw_mv iw_newnil iw_pick iw_bin iw_eqb iw_eqs iw_un iw_len iw_lens iw_chk iw_fld iw_fldv iw_idxa iw_idx iw_load iw_store iw_slice iw_slices iw_make iw_alloc iw_box iw_build iw_bslice iw_app iw_b2i iw_i2b iw_i2i iw_same iw_b2s iw_s2b iw_ext iw_call nm_i nm_y nm_b nm_s nm_st nm_sl nm_own nm_oad nm_adr nm_nil nm_np nm_und nm_dead nm_tup rl_nil rl_gate rl_mv rl_gen opv_t opv_c nx_some nx_none gate_tt gate_tf gate_ft gate_ff gate_u fr_ap em_nil em_i em_y em_b em_s em_st em_sl em_own em_adr em_oad em_ref em_nl em_np em_und em_dead em_tup0 em_tup_i em_tup_b em_tup_s em_tup_sl em_tup_st em_tup_np em_tup_own em_tup_oad mm_i mm_y mm_b mm_s mm_st mm_sl mm_own mm_oad mm_adr mm_nil mm_np mm_und mm_dead ef_mv ef_newnil ef_pickt ef_pickf ef_bin ef_eqb ef_eqs ef_un ef_lens ef_len_sl ef_len_own ef_len_nil ef_chk_adr ef_chk_oad ef_fld_adr ef_fld_oad ef_fldv idxR_some ef_idxa_sl ef_idxa_own ef_idx ef_load_adr_st ef_load_adr_i ef_load_adr_y ef_load_adr_b ef_load_adr_s ef_load_adr_sl atN_nil atN_zero atN_succ ef_load_oad ef_store ef_slice ef_slices ef_make ef_alloc ef_box ef_build ef_bslice ef_app_own ef_app_nil ef_b2i ef_i2b ef_i2i ef_same ef_ext ret1 ret2_some calL_some ef_call retC_i retC_y retC_b retC_s retC_st retC_sl retC_np retC_fr retC_ref retC_tup rk_nil rk_i rk_y rk_b rk_s rk_st rk_sl rk_own rk_oad rk_nl ok_nil ok_i ok_y ok_b ok_s ok_st ok_sl ok_own ok_oad ok_nl lo_nil lo_i lo_y lo_b lo_s lo_st lo_sl lo_own lo_oad lo_nl pr_nil pr_i pr_y pr_b pr_s pr_st pr_sl pr_own pr_nl pr_oad nr_i nr_y nr_b nr_s nr_st nr_sl nr_fr nr_np nr_tup ng_i ng_b ng_s ng_fr ng_nil resV effP_eff binD bi_add bi_sub bi_mul bi_quo bi_rem bi_eql bi_neq bi_lss bi_leq bi_gtr bi_geq bi_shl bi_shr bi_and bi_or bi_xor bi_andNot binY binS unD look put putD LS.get LS.drop killE sweep lookO putO dropO enter leave giveBackL giveBack outs lendArgs lendArg newOuts takeIn takeInL lendL DV.lend adoptL DV.adopt elems apartKs part DV.cells unpart settle settleL over mkId szId fillP fillE tk_e2 tk_i tk_y lt_e2 lt_i lt_y lend_rep al_e2 al_is al_ys al_rep al_app lend_app adopt_app new_app lend_e2 lend_i lend_y adopt_e2 adopt_i adopt_y new_e2 new_i allNewL DV.allNew bounds sliceD sliceS em_w em_q em_r em_fn em_tup_w em_tup_q em_tup_r mm_w mm_q mm_r mm_fn ef_load_adr_w ef_load_adr_q ef_load_adr_r retC_w retC_q retC_r rk_w rk_q rk_r rk_fn ok_w ok_q ok_r ok_fn lo_w lo_q lo_r lo_fn pr_w pr_q pr_r pr_fn nr_w nr_q nr_r ng_w ng_q ng_r oa_w oa_q oa_r oa_fn al_w al_q al_r al_fn ov_w ov_q ov_r ov_fn so_w so_q so_r so_fn il_w il_q il_r il_fn oi_w oi_q oi_r oi_fn av_w av_q av_r av_fn nm_w nm_q nm_r nm_fn ef_i2r ef_r2s ef_mkfn ef_idxp_adr ef_calld capsOk DV.cell List.all_cons List.all_nil rk_own_t lo_own_t lk_f lk_t pr_own_t mutB ak_calld hk_calld iw_calld iw_mkfn iw_i2r iw_r2s bw_and bw_or bw_xor bw_andNot bw_eql bw_neq sw_shl sw_shr sq_shl gEnv_nil rk_adr ok_adr lo_adr pr_adr oa_adr capL capArg DV.cap ak_mkfn hk_mkfn ef_callm gf_ap ga_nil ga_cons tgv_own gk_e gk_giv gk_i gk_y gk_b gk_s gk_w gk_q gk_r gk_fn gk_st gk_sl gk_own gk_oad gk_adr gk_nl gk_np rk_giv ok_giv lo_giv pr_giv oa_giv iw_callm hk_callm ak_callm is_callm ia_callm tg_callm md_callm ks_close cls_oad
attribute [local congr] ifP_congr nxP_congr nxR_congr nxT_congr nxG_congr nxF_congr ghK_congr gate_congr nx_congr nxD_congr runL_congr runD_congr eff_congr calL_congr ret2_congr seqK_congr regK_congr condK_congr endK_congr drK_congr nxW_congr
attribute [local simp ↓] nxT_some rt_nil rt_gen rt_gate nxP_some rq_nil rq_gen rq_gate nxR_some ru_nil ru_gen ru_gate nxG_some rg_nil rg_gen rg_gate nxF_some rf_nil rf_gen rf_gate ks_promote ks_freeze frz_own ks_rename ghK_some gate_tt gate_tf gate_ft gate_ff gate_u nx_some nxD_some rl_nil rl_mv rl_gen rl_gate rd_nil rd_mv rd_gen rd_gate rd_free rr_false rr_true drK_some drK_none nxW_some rw_nil rw_gen rw_gate ks_region ks_seq ks_cond ks_block seqK_n seqK_e seqK_r regK_some condK_t condK_f blkK_n blkK_r endK_n endK_r calL_some ret2_some opv_t opv_c
section
/-! ### what the exact laws use -/
theorem c_toTest (t : T) : call lf n_laws_toTest [e2 t] = some (e2 t, []) := by
  rw [call_k lf n_laws_toTest _ (F := F_laws_toTest) rfl rfl]
  simp [F_laws_toTest, e2]
theorem c_szTestS (ts : List T) (n : Int) (h0 : 0 ≤ n) (h1 : n ≤ 1048576) (hb : (ts.length : Int) ≤ 9223372036854775807) : call lf n_laws_szTestS [.sl 0 (ts.map e2), .i n] = some (.i (if n < ts.length then -1 else n - ts.length), []) := by
  rw [call_k lf n_laws_szTestS _ (F := F_laws_szTestS) rfl rfl]
  have w : wr (n - ts.length) = n - ts.length := wr_id (by omega) (by omega)
  by_cases h : n < ts.length
  · have h' : n - ts.length < 0 := by omega
    simp [F_laws_szTestS, w, h, h']
  · have h' : ¬ n - ts.length < 0 := by omega
    simp [F_laws_szTestS, w, h, h']
def cz (ts : List T) (i : Nat) : List DV := (ts.take i).map e2 ++ List.replicate (ts.length - i) (.st [.i 0, .i 0])
theorem cz_len {ts : List T} {i : Nat} (hi : i ≤ ts.length) : (cz ts i).length = ts.length := by simp [cz]; omega
theorem cz_set {ts : List T} {i : Nat} {t : T} (hi : i < ts.length) (h : ts.take (i + 1) = ts.take i ++ [t]) : (cz ts i).set i (.st [.i t.1, .i t.2]) = cz ts (i + 1) := by
  have : ((ts.take i).map e2).length = i := by simp; omega
  unfold cz
  rw [List.set_append_right _ _ (by omega), this, Nat.sub_self, h, show ts.length - i = (ts.length - (i + 1)) + 1 by omega, List.replicate_succ, List.set_cons_zero, List.map_append, List.append_assoc]
  rfl
theorem cz_get {ts : List T} {i : Nat} (hi : i < ts.length) : atN (cz ts i) i = some (.st [.i 0, .i 0]) := by
  show (cz ts i)[i]? = _
  have : ((ts.take i).map e2).length = i := by simp; omega
  unfold cz
  rw [List.getElem?_append_right (by omega), this, Nat.sub_self, List.getElem?_replicate]
  simp; omega
theorem cz_zero (ts : List T) : cz ts 0 = List.replicate ts.length (.st [.i 0, .i 0]) := by simp [cz]
theorem cz_all (ts : List T) : cz ts ts.length = ts.map e2 := by simp [cz]
theorem c_toTestS (ts : List T) (hb : (ts.length : Int) ≤ 1048576) : call lf n_laws_toTestS [.sl 0 (ts.map e2)] = some (.fr 2 (ts.map e2), []) := by
  rw [call_k lf n_laws_toTestS _ (F := F_laws_toTestS) rfl rfl]
  have L : ex lf F_laws_toTestS_W0 ⟨[(0, .sl 0 (ts.map e2)), (3, .own 3600 ts.length 0 ts.length), (4, .i 0)], [(3600, cz ts 0)]⟩ =
      some (.exit 0, ⟨[(0, .sl 0 (ts.map e2)), (3, .own 3600 ts.length 0 ts.length), (4, .i ts.length)], [(3600, cz ts ts.length)]⟩) := by
    refine loop_count ts.length (fun i => ⟨[(0, .sl 0 (ts.map e2)), (3, .own 3600 ts.length 0 ts.length), (4, .i i)], [(3600, cz ts i)]⟩) (fun i hi => ?_) ?_ (by simp)
    · obtain ⟨t, q1, q2, q3, q4⟩ := at_e2 hi
      have w1 : wr ((i : Int) + 1) = (i : Int) + 1 := wr_id (by omega) (by omega)
      have c1 := cz_len (ts := ts) (i := i) (by omega)
      have c2 := cz_get hi
      have c3 := cz_set hi q4
      have C := c_toTest t
      simp only [e2] at C
      simp [F_laws_toTestS_L0, hi, q3, w1, c1, c2, c3, C]
    · simp [F_laws_toTestS_L0]
  have b1 : (ts.length : Int) ≤ bound := by unfold bound; omega
  rw [cz_zero, cz_all] at L
  simp [F_laws_toTestS, b1, L]
theorem c_eqTest (t u : T) : call lf n_laws_eqTest [e2 t, e2 u] = some (.b (t.1 == u.1 && t.2 == u.2), []) := by
  rw [call_k lf n_laws_eqTest _ (F := F_laws_eqTest) rfl rfl]
  by_cases h1 : t.1 = u.1
  · by_cases h2 : t.2 = u.2
    · simp [F_laws_eqTest, e2, h1, h2]
    · have h3 : (t.2 != u.2) = true := bne_iff_ne.2 h2
      have h4 : (t.2 == u.2) = false := beq_eq_false_iff_ne.2 h2
      simp [F_laws_eqTest, e2, h1, h3, h4]
  · have h3 : (t.1 != u.1) = true := bne_iff_ne.2 h1
    have h4 : (t.1 == u.1) = false := beq_eq_false_iff_ne.2 h1
    simp [F_laws_eqTest, e2, h3, h4]
theorem c_eqTestS_self (aS : List T) (ha : (aS.length : Int) ≤ 1048576) : call lf n_laws_eqTestS [.sl 0 (aS.map e2), .sl 0 (aS.map e2)] = some (.b true, []) := by
  rw [call_k lf n_laws_eqTestS _ (F := F_laws_eqTestS) rfl rfl]
  have L : ex lf F_laws_eqTestS_W0 ⟨[(0, .sl 0 (aS.map e2)), (1, .sl 0 (aS.map e2)), (5, .i 0)], []⟩ = some (.exit 0, ⟨[(0, .sl 0 (aS.map e2)), (1, .sl 0 (aS.map e2)), (5, .i aS.length)], []⟩) := by
    refine loop_count aS.length (fun i => ⟨[(0, .sl 0 (aS.map e2)), (1, .sl 0 (aS.map e2)), (5, .i i)], []⟩) (fun i hi => ?_) ?_ (by simp)
    · obtain ⟨t, q1, q2, q3, q4⟩ := at_e2 hi
      have w1 : wr ((i : Int) + 1) = (i : Int) + 1 := wr_id (by omega) (by omega)
      have C := c_eqTest t t
      simp only [e2, beq_self_eq_true, Bool.and_self] at C
      simp [F_laws_eqTestS_L0, hi, q3, w1, C]
    · simp [F_laws_eqTestS_L0]
  simp [F_laws_eqTestS, L]
end
section
def ci (ts : List Int) (i : Nat) : List DV := (ts.take i).map .i ++ List.replicate (ts.length - i) (.i 0)
theorem ci_len {ts : List Int} {i : Nat} (hi : i ≤ ts.length) : (ci ts i).length = ts.length := by simp [ci]; omega
theorem ci_set {ts : List Int} {i : Nat} {t : Int} (hi : i < ts.length) (h : ts.take (i + 1) = ts.take i ++ [t]) : (ci ts i).set i (.i t) = ci ts (i + 1) := by
  have : ((ts.take i).map DV.i).length = i := by simp; omega
  unfold ci
  rw [List.set_append_right _ _ (by omega), this, Nat.sub_self, h, show ts.length - i = (ts.length - (i + 1)) + 1 by omega, List.replicate_succ, List.set_cons_zero, List.map_append, List.append_assoc]
  rfl
theorem ci_get {ts : List Int} {i : Nat} (hi : i < ts.length) : atN (ci ts i) i = some (.i 0) := by
  show (ci ts i)[i]? = _
  have : ((ts.take i).map DV.i).length = i := by simp; omega
  unfold ci
  rw [List.getElem?_append_right (by omega), this, Nat.sub_self, List.getElem?_replicate]
  simp; omega
theorem ci_zero (ts : List Int) : ci ts 0 = List.replicate ts.length (.i 0) := by simp [ci]
theorem ci_all (ts : List Int) : ci ts ts.length = ts.map .i := by simp [ci]
theorem at_i {ks : List Int} {i : Nat} (hi : i < ks.length) : ∃ k, ks[i]? = some k ∧ k ∈ ks ∧ atI (ks.map .i) i = some (.i k) ∧ ks.take (i + 1) = ks.take i ++ [k] := by
  refine ⟨ks[i], List.getElem?_eq_getElem hi, List.getElem_mem hi, ?_, List.take_succ_eq_append_getElem hi⟩
  simp [atI, hi]
theorem c_toIntS (ts : List Int) (hb : (ts.length : Int) ≤ 1048576) : call lf n_laws_toIntS [.sl 0 (ts.map .i)] = some (.fr 1 (ts.map .i), []) := by
  rw [call_k lf n_laws_toIntS _ (F := F_laws_toIntS) rfl rfl]
  have L : ex lf F_laws_toIntS_W0 ⟨[(0, .sl 0 (ts.map .i)), (3, .own 3592 ts.length 0 ts.length), (4, .i 0)], [(3592, ci ts 0)]⟩ =
      some (.exit 0, ⟨[(0, .sl 0 (ts.map .i)), (3, .own 3592 ts.length 0 ts.length), (4, .i ts.length)], [(3592, ci ts ts.length)]⟩) := by
    refine loop_count ts.length (fun i => ⟨[(0, .sl 0 (ts.map .i)), (3, .own 3592 ts.length 0 ts.length), (4, .i i)], [(3592, ci ts i)]⟩) (fun i hi => ?_) ?_ (by simp)
    · obtain ⟨t, q1, q2, q3, q4⟩ := at_i hi
      have w1 : wr ((i : Int) + 1) = (i : Int) + 1 := wr_id (by omega) (by omega)
      have c1 := ci_len (ts := ts) (i := i) (by omega)
      have c2 := ci_get hi
      have c3 := ci_set hi q4
      simp [F_laws_toIntS_L0, hi, q3, w1, c1, c2, c3]
    · simp [F_laws_toIntS_L0]
  have b1 : (ts.length : Int) ≤ bound := by unfold bound; omega
  rw [ci_zero, ci_all] at L
  simp [F_laws_toIntS, b1, L]
theorem c_eqIntS_self (aS : List Int) (ha : (aS.length : Int) ≤ 1048576) : call lf n_laws_eqIntS [.sl 0 (aS.map .i), .sl 0 (aS.map .i)] = some (.b true, []) := by
  rw [call_k lf n_laws_eqIntS _ (F := F_laws_eqIntS) rfl rfl]
  have L : ex lf F_laws_eqIntS_W0 ⟨[(0, .sl 0 (aS.map .i)), (1, .sl 0 (aS.map .i)), (5, .i 0)], []⟩ = some (.exit 0, ⟨[(0, .sl 0 (aS.map .i)), (1, .sl 0 (aS.map .i)), (5, .i aS.length)], []⟩) := by
    refine loop_count aS.length (fun i => ⟨[(0, .sl 0 (aS.map .i)), (1, .sl 0 (aS.map .i)), (5, .i i)], []⟩) (fun i hi => ?_) ?_ (by simp)
    · obtain ⟨t, q1, q2, q3, q4⟩ := at_i hi
      have w1 : wr ((i : Int) + 1) = (i : Int) + 1 := wr_id (by omega) (by omega)
      simp [F_laws_eqIntS_L0, hi, q3, w1]
    · simp [F_laws_eqIntS_L0]
  simp [F_laws_eqIntS, L]
end
section

end
section
/-! ### marks -/
theorem mid_at {A B : List DV} {i : Nat} (h : A.length = i) (x : DV) : atN (A ++ x :: B) i = some x := by
  show (A ++ x :: B)[i]? = _
  rw [List.getElem?_append_right (by omega), h]; simp
theorem mid_set {A B : List DV} {i : Nat} (h : A.length = i) (x y : DV) : (A ++ x :: B).set i y = A ++ y :: B := by
  rw [List.set_append_right _ _ (by omega), h]; simp
theorem split_at {es : List DV} {i : Nat} (hi : i < es.length) : es.drop i = es[i] :: es.drop (i + 1) := List.drop_eq_getElem_cons hi
/-- the marks from k on -/
def mk1 (k : Int) (n : Nat) : List DV := (List.range n).map fun (j : Nat) => DV.i (k + (j : Int))
theorem mk1_len (k : Int) (n : Nat) : (mk1 k n).length = n := by simp [mk1]
theorem mk1_succ (k : Int) (n : Nat) : mk1 k (n + 1) = mk1 k n ++ [.i (k + n)] := by simp [mk1, List.range_succ]
def mk2 (k : Int) (n : Nat) : List DV := (List.range n).map fun (j : Nat) => DV.st [.i (k + 2 * (j : Int)), .i (k + 2 * (j : Int) + 1)]
theorem mk2_len (k : Int) (n : Nat) : (mk2 k n).length = n := by simp [mk2]
theorem mk2_succ (k : Int) (n : Nat) : mk2 k (n + 1) = mk2 k n ++ [.st [.i (k + 2 * n), .i (k + 2 * n + 1)]] := by simp [mk2, List.range_succ]
theorem mk1_map (k : Int) (n : Nat) : ∃ u : List Int, mk1 k n = u.map .i ∧ u.length = n := ⟨(List.range n).map fun (j : Nat) => k + (j : Int), by simp [mk1], by simp⟩
theorem mk2_map (k : Int) (n : Nat) : ∃ u : List T, mk2 k n = u.map e2 ∧ u.length = n := ⟨(List.range n).map fun (j : Nat) => (k + 2 * (j : Int), k + 2 * (j : Int) + 1), by simp [mk2, e2], by simp⟩
theorem tk_n {u : List DV} {n : Nat} (h : u.length = n) : List.take n u = u := List.take_of_length_le (by omega)
set_option maxHeartbeats 4000000 in
theorem c_markIntS (xs : List Int) (k : Int) (k0 : 0 ≤ k) (k1 : k ≤ 1000000000) (hl : xs.length ≤ 1048576) : call lf n_laws_markIntS [.fr 1 (xs.map .i), .i k] = some (.i (k + xs.length), [.fr 1 (mk1 k xs.length)]) := by
  rw [call_k lf n_laws_markIntS _ (F := F_laws_markIntS) rfl rfl]
  have L := loop_count (lf := lf) (L := F_laws_markIntS_L0) xs.length (fun i => ⟨[(0, .own 15 xs.length 0 xs.length), (1, .i (k + i)), (5, .i i)], [(15, mk1 k i ++ (xs.map .i).drop i)]⟩) (x := .exit 0) (R := ⟨[(0, .own 15 xs.length 0 xs.length), (1, .i (k + xs.length)), (5, .i xs.length)], [(15, mk1 k xs.length ++ (xs.map .i).drop xs.length)]⟩) (fun i hi => by
    have w1 : wr ((i : Int) + 1) = (i : Int) + 1 := wr_id (by omega) (by omega)
    have w2 : wr (k + i + 1) = k + (i + 1 : Nat) := by rw [wr_id (by omega) (by omega)]; omega
    have hi' : (i : Int) < xs.length := by omega
    have e := split_at (es := xs.map DV.i) (i := i) (by simpa using hi)
    rw [List.getElem_map] at e
    rw [mk1_succ, e]
    have hA := mk1_len k i
    have lB : (List.drop (i + 1) (xs.map DV.i)).length = xs.length - (i + 1) := by simp
    generalize xs[i] = x at *
    generalize List.drop (i + 1) (xs.map DV.i) = B at *
    generalize mk1 k i = A at *
    have q1 := mid_at (B := B) hA
    have q2 := mid_set (B := B) hA
    have q3 : ∀ x : DV, (A ++ x :: B).length = xs.length := fun x => by simp [hA, lB]; omega
    rw [show A ++ [DV.i (k + ↑i)] ++ B = A ++ DV.i (k + ↑i) :: B by simp]
    simp [F_laws_markIntS_L0, hi, hi', w1, w2, q1, q2, q3, -List.length_append, -List.length_cons]) (by
    have lm := mk1_len k xs.length
    simp [F_laws_markIntS_L0, lm]) (by simp)
  have z : mk1 k 0 ++ (xs.map DV.i).drop 0 = xs.map .i := by simp [mk1]
  rw [z] at L
  have zn : mk1 k xs.length ++ (xs.map DV.i).drop xs.length = mk1 k xs.length := by simp
  rw [zn] at L
  have L' : ex lf F_laws_markIntS_W0 ⟨[(0, .own 15 xs.length 0 xs.length), (1, .i k), (5, .i 0)], [(15, xs.map .i)]⟩ = some (.exit 0, ⟨[(0, .own 15 xs.length 0 xs.length), (1, .i (k + xs.length)), (5, .i xs.length)], [(15, mk1 k xs.length)]⟩) := by
    have := L
    simp only [Int.natCast_zero, Int.add_zero] at this
    exact this
  have lm := mk1_len k xs.length
  simp [F_laws_markIntS, L', lm]
set_option maxHeartbeats 4000000 in
theorem c_heldIntS (n : Nat) (k : Int) (k0 : 0 ≤ k) (k1 : k ≤ 1000000000) (hl : n ≤ 1048576) : call lf n_laws_heldIntS [.sl 0 (mk1 k n), .i k] = some (.i (k + n), []) := by
  rw [call_k lf n_laws_heldIntS _ (F := F_laws_heldIntS) rfl rfl]
  have lm := mk1_len k n
  have A : ∀ i, i < n → atI (mk1 k n) (i : Int) = some (.i (k + i)) := fun i hi => by simp [atI, mk1, hi]
  generalize mk1 k n = es at *
  have L := loop_count (lf := lf) (L := F_laws_heldIntS_L0) n (fun i => ⟨[(0, .sl 0 es), (1, .i (k + i)), (5, .i i)], []⟩) (x := .exit 0) (R := ⟨[(0, .sl 0 es), (1, .i (k + n)), (5, .i n)], []⟩) (fun i hi => by
    have w1 : wr ((i : Int) + 1) = (i : Int) + 1 := wr_id (by omega) (by omega)
    have w2 : wr (k + i + 1) = k + (i + 1 : Nat) := by rw [wr_id (by omega) (by omega)]; omega
    have hi' : (i : Int) < n := by omega
    have q := A i hi
    simp [F_laws_heldIntS_L0, hi, hi', w1, w2, lm, q]) (by
    simp [F_laws_heldIntS_L0, lm]) (by simp)
  have L' : ex lf F_laws_heldIntS_W0 ⟨[(0, .sl 0 es), (1, .i k), (5, .i 0)], []⟩ = some (.exit 0, ⟨[(0, .sl 0 es), (1, .i (k + n)), (5, .i n)], []⟩) := by
    have := L
    simp only [Int.natCast_zero, Int.add_zero] at this
    exact this
  simp [F_laws_heldIntS, L']
set_option maxHeartbeats 4000000 in
theorem c_markTestS (xs : List T) (k : Int) (k0 : 0 ≤ k) (k1 : k ≤ 1000000000) (hl : xs.length ≤ 1048576) : call lf n_laws_markTestS [.fr 2 (xs.map e2), .i k] = some (.i (k + 2 * xs.length), [.fr 2 (mk2 k xs.length)]) := by
  rw [call_k lf n_laws_markTestS _ (F := F_laws_markTestS) rfl rfl]
  have L := loop_count (lf := lf) (L := F_laws_markTestS_L0) xs.length (fun i => ⟨[(0, .own 23 xs.length 0 xs.length), (1, .i (k + 2 * i)), (5, .i i)], [(23, mk2 k i ++ (xs.map e2).drop i)]⟩) (x := .exit 0) (R := ⟨[(0, .own 23 xs.length 0 xs.length), (1, .i (k + 2 * xs.length)), (5, .i xs.length)], [(23, mk2 k xs.length ++ (xs.map e2).drop xs.length)]⟩) (fun i hi => by
    have w1 : wr ((i : Int) + 1) = (i : Int) + 1 := wr_id (by omega) (by omega)
    have w2 : wr (k + 2 * i + 1) = k + 2 * i + 1 := wr_id (by omega) (by omega)
    have w3 : wr (k + 2 * i + 1 + 1) = k + 2 * (i + 1 : Nat) := by rw [wr_id (by omega) (by omega)]; omega
    have hi' : (i : Int) < xs.length := by omega
    have e := split_at (es := xs.map e2) (i := i) (by simpa using hi)
    rw [List.getElem_map] at e
    rw [mk2_succ, e]
    have hA := mk2_len k i
    have lB : (List.drop (i + 1) (xs.map e2)).length = xs.length - (i + 1) := by simp
    generalize xs[i] = x at *
    generalize List.drop (i + 1) (xs.map e2) = B at *
    generalize mk2 k i = A at *
    have q1 := mid_at (B := B) hA
    have q2 := mid_set (B := B) hA
    have q3 : ∀ x : DV, (A ++ x :: B).length = xs.length := fun x => by simp [hA, lB]; omega
    rw [show A ++ [DV.st [DV.i (k + 2 * ↑i), DV.i (k + 2 * ↑i + 1)]] ++ B = A ++ DV.st [DV.i (k + 2 * ↑i), DV.i (k + 2 * ↑i + 1)] :: B by simp]
    have q4 : ∀ a b : DV, 1 ≤ [a, b].length := fun a b => by simp
    have q5 : ∀ a b : DV, 2 ≤ [a, b].length := fun a b => by simp
    simp [F_laws_markTestS_L0, e2, hi, hi', w1, w2, w3, q1, q2, q3, q4, q5, -List.length_append, -List.length_cons]) (by
    have lm := mk2_len k xs.length
    simp [F_laws_markTestS_L0, lm]) (by simp)
  have z : mk2 k 0 ++ (xs.map e2).drop 0 = xs.map e2 := by simp [mk2]
  rw [z] at L
  have zn : mk2 k xs.length ++ (xs.map e2).drop xs.length = mk2 k xs.length := by simp
  rw [zn] at L
  have L' : ex lf F_laws_markTestS_W0 ⟨[(0, .own 23 xs.length 0 xs.length), (1, .i k), (5, .i 0)], [(23, xs.map e2)]⟩ = some (.exit 0, ⟨[(0, .own 23 xs.length 0 xs.length), (1, .i (k + 2 * xs.length)), (5, .i xs.length)], [(23, mk2 k xs.length)]⟩) := by
    have := L
    simp only [Int.natCast_zero, Int.mul_zero, Int.add_zero] at this
    exact this
  have lm := mk2_len k xs.length
  simp [F_laws_markTestS, L', lm]
end
end Zz
