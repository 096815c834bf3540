/- What the functions answer, as equations: EC. No conditions. -/
import Derived.Test.YthgklolghalofaaDoorEBt
set_option linter.unusedSectionVars false
set_option linter.unusedVariables false
set_option linter.unusedSimpArgs false
namespace Zz
open Go.Lg Md
set_option linter.unusedSimpArgs false
set_option linter.unusedVariables false
attribute [local simp] ia_mv ia_newnil ia_pick ia_bin ia_eqb ia_eqs ia_un ia_len ia_lens ia_chk ia_fld ia_fldv ia_idxa ia_idx ia_load ia_store ia_slice ia_slices ia_make ia_alloc ia_box ia_build ia_bslice ia_app ia_b2i ia_i2b ia_i2i ia_same ia_b2s ia_s2b ia_ext ia_mm ia_idxp ia_calld ia_mkfn ia_i2r ia_r2s ia_call pt_nil pt_cons mi_nil mi_cons md_bslice md_mv md_newnil md_pick md_bin md_eqb md_un md_len md_lens md_fld md_fldv md_idxa md_idx md_load md_store md_slice md_slices md_make md_alloc md_box md_build md_app md_conv md_ext md_call md_calld md_callg md_mkfn md_mm md_idxp md_eqn md_eqs md_chk tg_bslice tg_mv tg_newnil tg_pick tg_bin tg_eqb tg_un tg_len tg_lens tg_fld tg_fldv tg_idxa tg_idx tg_load tg_store tg_slice tg_slices tg_make tg_alloc tg_box tg_build tg_app tg_conv tg_ext tg_call tg_calld tg_callg tg_mkfn tg_mm tg_idxp tg_eqn tg_eqs tg_chk rp_eq ro_eq ifP_t ifP_f np_def ng1_nil ng2_nil ng_gate ng_gen tgA_t tgA_0 tgA_1 tgA_2 aC_nil aC_c aC_t nxP_some nxP_none rq_nil rq_gen rq_gate nxR_some nxR_none ru_nil ru_gen ru_gate pl_none pl_some gt_nil gt_t gt_c di_some di_none an_nil an_cons nxG_some nxG_none rg_nil rg_gen rg_gate oldO_some oa_nil oa_i oa_y oa_b oa_s oa_st oa_sl oa_own oa_oad oa_nl al_nil al_cons al_i al_y al_b al_s al_st al_sl nxF_some nxF_none rf_nil rf_gen rf_gate hk_newnil hk_make hk_alloc hk_box hk_build hk_bslice hk_call hk_store hk_app cl_nil cl_cons ai_nil ai_cons il_i il_y il_b il_s il_st il_sl il_own il_adr il_oad il_ref il_fr il_tup il_nil il_np il_und il_dead ol_adr ol_b ol_dead ol_e ol_fn ol_fr ol_i ol_nil ol_np ol_oad ol_own ol_q ol_r ol_ref ol_s ol_sl ol_st ol_tup ol_und ol_w ol_y oj_e oj_i oj_y oj_b oj_s oj_st oj_sl oj_own oj_adr oj_oad oj_ref oj_fr oj_tup oj_nil oj_np oj_und oj_dead oj_w oj_q oj_r oj_fn oi_e oi_i oi_y oi_b oi_s oi_st oi_sl oi_own oi_adr oi_oad oi_ref oi_fr oi_tup oi_nil oi_np oi_und oi_dead as_nil as_cons ao_nil ao_cons av_i av_y av_b av_s av_st av_sl av_own av_adr av_oad av_ref av_fr av_tup av_nil av_np av_und av_dead pro_cons ghK_some ks_promote ks_freeze frz_own ks_rename ren_own dropO adoptP newP wholeP cutP allOldL ex_skip ex_ret ex_exit ks_region ks_seq ks_cond ks_block seqK_n seqK_e seqK_r regK_some condK_t condK_f blkK_n blkK_r blkK_e endK_n endK_r rr_false rr_true rd_free mo_nil mo_cons drK_some drK_none nxW_some nxW_none rw_nil rw_gen rw_gate ak_newnil ak_make ak_alloc ak_box ak_build ak_bslice ak_call ak_store ak_app iw_mm iw_eqn iw_idxp ef_callg cgK_some gv_e gv_own gv_i gv_sl gv_st gv_b gv_nil gvK_some gvO_some iw_callg ia_callg ak_callg hk_callg is_mv is_newnil is_pick is_bin is_eqb is_eqs is_un is_len is_lens is_chk is_fld is_fldv is_idxa is_idx is_load is_slice is_slices is_make is_alloc is_box is_build is_bslice is_app is_conv is_ext is_call is_calld is_callg is_mkfn is_mm is_idxp is_eqn is_store rt_nil rt_gen rt_gate nxT_some nxT_none ef_eqn_nil ef_eqn_sl ef_eqn_own ia_eqn ef_mmx ef_mmn ef_idxp nxD_some nxD_none ov_i ov_y ov_b ov_s ov_st ov_sl ov_own ov_oad ov_adr ov_nil ov_np ov_und ov_dead ov_tup oldN_some oldN_nil oldN_none so_none so_i so_y so_b so_s so_st so_sl so_adr so_nil so_np so_und so_dead anyM_nil anyM_t anyM_c so_own so_oad rd_nil rd_gen rd_mv rd_gate iw_mv iw_newnil iw_pick iw_bin iw_eqb iw_eqs iw_un iw_len iw_lens iw_chk iw_fld iw_fldv iw_idxa iw_idx iw_load iw_store iw_slice iw_slices iw_make iw_alloc iw_box iw_build iw_bslice iw_app iw_b2i iw_i2b iw_i2i iw_same iw_b2s iw_s2b iw_ext iw_call nm_i nm_y nm_b nm_s nm_st nm_sl nm_own nm_oad nm_adr nm_nil nm_np nm_und nm_dead nm_tup rl_nil rl_gate rl_mv rl_gen opv_t opv_c nx_some nx_none gate_tt gate_tf gate_ft gate_ff gate_u fr_ap em_nil em_i em_y em_b em_s em_st em_sl em_own em_adr em_oad em_ref em_nl em_np em_und em_dead em_tup0 em_tup_i em_tup_b em_tup_s em_tup_sl em_tup_st em_tup_np em_tup_own em_tup_oad mm_i mm_y mm_b mm_s mm_st mm_sl mm_own mm_oad mm_adr mm_nil mm_np mm_und mm_dead ef_mv ef_newnil ef_pickt ef_pickf ef_bin ef_eqb ef_eqs ef_un ef_lens ef_len_sl ef_len_own ef_len_nil ef_chk_adr ef_chk_oad ef_fld_adr ef_fld_oad ef_fldv idxR_some ef_idxa_sl ef_idxa_own ef_idx ef_load_adr_st ef_load_adr_i ef_load_adr_y ef_load_adr_b ef_load_adr_s ef_load_adr_sl atN_nil atN_zero atN_succ ef_load_oad ef_store ef_slice ef_slices ef_make ef_alloc ef_box ef_build ef_bslice ef_app_own ef_app_nil ef_b2i ef_i2b ef_i2i ef_same ef_ext ret1 ret2_some calL_some ef_call retC_i retC_y retC_b retC_s retC_st retC_sl retC_np retC_fr retC_ref retC_tup rk_nil rk_i rk_y rk_b rk_s rk_st rk_sl rk_own rk_oad rk_nl ok_nil ok_i ok_y ok_b ok_s ok_st ok_sl ok_own ok_oad ok_nl lo_nil lo_i lo_y lo_b lo_s lo_st lo_sl lo_own lo_oad lo_nl pr_nil pr_i pr_y pr_b pr_s pr_st pr_sl pr_own pr_nl pr_oad nr_i nr_y nr_b nr_s nr_st nr_sl nr_fr nr_np nr_tup ng_i ng_b ng_s ng_fr ng_nil resV effP_eff binD bi_add bi_sub bi_mul bi_quo bi_rem bi_eql bi_neq bi_lss bi_leq bi_gtr bi_geq bi_shl bi_shr bi_and bi_or bi_xor bi_andNot binY binS unD look put putD LS.get LS.drop killE sweep lookO putO dropO enter leave giveBackL giveBack outs lendArgs lendArg newOuts takeIn takeInL lendL DV.lend adoptL DV.adopt elems apartKs part DV.cells unpart settle settleL over mkId szId fillP fillE tk_e2 tk_i tk_y lt_e2 lt_i lt_y lend_rep al_e2 al_is al_ys al_rep al_app lend_app adopt_app new_app lend_e2 lend_i lend_y adopt_e2 adopt_i adopt_y new_e2 new_i allNewL DV.allNew bounds sliceD sliceS em_w em_q em_r em_fn em_tup_w em_tup_q em_tup_r mm_w mm_q mm_r mm_fn ef_load_adr_w ef_load_adr_q ef_load_adr_r retC_w retC_q retC_r rk_w rk_q rk_r rk_fn ok_w ok_q ok_r ok_fn lo_w lo_q lo_r lo_fn pr_w pr_q pr_r pr_fn nr_w nr_q nr_r ng_w ng_q ng_r oa_w oa_q oa_r oa_fn al_w al_q al_r al_fn ov_w ov_q ov_r ov_fn so_w so_q so_r so_fn il_w il_q il_r il_fn oi_w oi_q oi_r oi_fn av_w av_q av_r av_fn nm_w nm_q nm_r nm_fn ef_i2r ef_r2s ef_mkfn ef_idxp_adr ef_calld capsOk DV.cell List.all_cons List.all_nil rk_own_t lo_own_t lk_f lk_t pr_own_t mutB ak_calld hk_calld iw_calld iw_mkfn iw_i2r iw_r2s bw_and bw_or bw_xor bw_andNot bw_eql bw_neq sw_shl sw_shr sq_shl gEnv_nil rk_adr ok_adr lo_adr pr_adr oa_adr capL capArg DV.cap ak_mkfn hk_mkfn ef_callm gf_ap ga_nil ga_cons tgv_own gk_e gk_giv gk_i gk_y gk_b gk_s gk_w gk_q gk_r gk_fn gk_st gk_sl gk_own gk_oad gk_adr gk_nl gk_np rk_giv ok_giv lo_giv pr_giv oa_giv iw_callm hk_callm ak_callm is_callm ia_callm tg_callm md_callm ef_i2q ef_q2i ef_q2q iw_i2q iw_q2i iw_q2q ia_i2q ia_q2i ia_q2q bq_and bq_add bq_shr sq_shr tgv_nil gk_ref rk_ref ok_ref lo_ref pr_ref oa_ref retC_fn nr_fn ef_load_adr_fn ks_close cls_oad
attribute [local congr] ifP_congr nxP_congr nxR_congr nxT_congr nxG_congr nxF_congr ghK_congr gate_congr nx_congr nxD_congr runL_congr runD_congr eff_congr calL_congr ret2_congr seqK_congr regK_congr condK_congr endK_congr drK_congr nxW_congr
attribute [local simp ↓] nxT_some rt_nil rt_gen rt_gate nxP_some rq_nil rq_gen rq_gate nxR_some ru_nil ru_gen ru_gate nxG_some rg_nil rg_gen rg_gate nxF_some rf_nil rf_gen rf_gate ks_promote ks_freeze frz_own ks_rename ghK_some gate_tt gate_tf gate_ft gate_ff gate_u nx_some nxD_some rl_nil rl_mv rl_gen rl_gate rd_nil rd_mv rd_gen rd_gate rd_free rr_false rr_true drK_some drK_none nxW_some rw_nil rw_gen rw_gate ks_region ks_seq ks_cond ks_block seqK_n seqK_e seqK_r regK_some condK_t condK_f blkK_n blkK_r endK_n endK_r calL_some ret2_some opv_t opv_c
section
attribute [-simp] DV.cells
attribute [local simp] sliceD cells_st cells_sl cells_i cells_y cells_b cells_s cells_w
attribute [local simp] lend_e3 adopt_e3 new_e3 al_e3 lt_e3
def rw3 (A B C : List DV) : List DV := [.sl 0 A, .sl 0 B, .sl 0 C]
def stC0 (X : List DV) (s : Int) (i : Nat) : LS := ⟨[(0, .sl 0 X), (3, .i s), (9, .sl 0 X), (10, .i 3), (11, .i i)], []⟩
def stC1 (X acc : List DV) (i : Nat) : LS := ⟨[(6, .own 12312 acc.length 0 acc.length), (25, .sl 0 X), (26, .i 3), (27, .i i)], [(12312, acc)]⟩
theorem cc_step0 {X es : List DV} {i : Nat} {s : Int} (h : atI X (i : Int) = some (.sl 0 es)) (hi : i < 3) (h0 : 0 ≤ s) (hb : s + es.length ≤ 1000000) :
    ex lf F_slices_Concat_impl_Choice_impl_Choice_L0 (stC0 X s i) = some (.normal, stC0 X (s + es.length) (i + 1)) := by
  have w1 : wr ((i : Int) + 1) = ((i + 1 : Nat) : Int) := by rw [wr_id (by omega) (by omega)]; omega
  have w2 : wr (s + (es.length : Int)) = s + es.length := wr_id (by omega) (by omega)
  have hi' : (i : Int) < 3 := by omega
  have ng : ¬ s + (es.length : Int) < 0 := by omega
  unfold stC0
  simp [F_slices_Concat_impl_Choice_impl_Choice_L0, hi', h, w1, w2, ng, -Int.natCast_add]
theorem cc_step1 {X es acc : List DV} {i : Nat} (h : atI X (i : Int) = some (.sl 0 es)) (hi : i < 3) (hb : acc.length + es.length ≤ 1000000) (hc : ∀ e ∈ es, e.cells.length = 3) :
    ex lf F_slices_Concat_impl_Choice_impl_Choice_L1 (stC1 X acc i) = some (.normal, stC1 X (acc ++ es) (i + 1)) := by
  have w1 : wr ((i : Int) + 1) = ((i + 1 : Nat) : Int) := by rw [wr_id (by omega) (by omega)]; omega
  have hi' : (i : Int) < 3 := by omega
  have lb : acc.length + es.length ≤ bound := by unfold bound; omega
  unfold stC1
  rw [List.length_append]
  simp [F_slices_Concat_impl_Choice_impl_Choice_L1, hi', h, w1, lb, if_pos hc, -Int.natCast_add]
set_option maxHeartbeats 4000000 in
theorem c_Concat {A B C : List DV} (hA : 0 < A.length) (hl : A.length + B.length + C.length ≤ 1000000) (cA : ∀ e ∈ A, e.cells.length = 3) (cB : ∀ e ∈ B, e.cells.length = 3) (cC : ∀ e ∈ C, e.cells.length = 3) :
    call lf n_slices_Concat_impl_Choice_impl_Choice [.sl 0 [.sl 0 A, .sl 0 B, .sl 0 C]] = some (.fr 3 (A ++ B ++ C), []) := by
  have a0 : atI (rw3 A B C) ((0 : Nat) : Int) = some (.sl 0 A) := rfl
  have a1 : atI (rw3 A B C) ((1 : Nat) : Int) = some (.sl 0 B) := rfl
  have a2 : atI (rw3 A B C) ((2 : Nat) : Int) = some (.sl 0 C) := rfl
  have L0 : ex lf F_slices_Concat_impl_Choice_impl_Choice_W0 (stC0 (rw3 A B C) 0 0) = some (.exit 0, stC0 (rw3 A B C) ((A.length : Int) + B.length + C.length) 3) := by
    rw [w_slices_Concat_impl_Choice_impl_Choice_0, cc_step0 a0 (by omega) (by omega) (by omega)]
    simp only
    rw [w_slices_Concat_impl_Choice_impl_Choice_0, cc_step0 a1 (by omega) (by omega) (by omega)]
    simp only
    rw [w_slices_Concat_impl_Choice_impl_Choice_0, cc_step0 a2 (by omega) (by omega) (by omega)]
    simp only
    rw [w_slices_Concat_impl_Choice_impl_Choice_0, Int.zero_add]
    unfold stC0
    generalize rw3 A B C = X
    simp [F_slices_Concat_impl_Choice_impl_Choice_L0]
  have L1 : ex lf F_slices_Concat_impl_Choice_impl_Choice_W1 (stC1 (rw3 A B C) [] 0) = some (.exit 2, stC1 (rw3 A B C) (A ++ B ++ C) 3) := by
    rw [w_slices_Concat_impl_Choice_impl_Choice_1, cc_step1 a0 (by omega) (by simp; omega) cA]
    simp only
    rw [w_slices_Concat_impl_Choice_impl_Choice_1, cc_step1 a1 (by omega) (by simp; omega) cB]
    simp only
    rw [w_slices_Concat_impl_Choice_impl_Choice_1, cc_step1 a2 (by omega) (by simp; omega) cC]
    simp only
    rw [w_slices_Concat_impl_Choice_impl_Choice_1, List.nil_append]
    unfold stC1
    generalize rw3 A B C = X
    simp [F_slices_Concat_impl_Choice_impl_Choice_L1]
  have G : call lf n_slices_Grow_impl_Choice_impl_Choice [.nil, .i ((A.length : Int) + B.length + C.length)] = some (.fr 3 [], []) := by
    rw [call_prim lf n_slices_Grow_impl_Choice_impl_Choice _ (F := F_slices_Grow_impl_Choice_impl_Choice) rfl rfl, grow_k, if_pos]
    unfold bound
    omega
  have rl : (rw3 A B C).length = 3 := rfl
  show call lf n_slices_Concat_impl_Choice_impl_Choice [.sl 0 (rw3 A B C)] = _
  rw [call_k lf n_slices_Concat_impl_Choice_impl_Choice _ (F := F_slices_Concat_impl_Choice_impl_Choice) rfl rfl]
  unfold stC0 at L0
  unfold stC1 at L1
  simp only [Int.natCast_zero, List.length_nil] at L0 L1
  generalize rw3 A B C = X at *
  generalize (A.length : Int) + B.length + C.length = n at *
  generalize A ++ B ++ C = Y at *
  simp [F_slices_Concat_impl_Choice_impl_Choice, L0, L1, G, rl]
/-- a choice, and what lies behind its answers -/
def lay3 (k place : Nat) (N Y : List C3) : List C3 := ((k : Int), (if N = [] then -1 else (place : Int) + 1), (if Y = [] then -1 else (place : Int) + 1 + N.length)) :: (N ++ Y)
theorem lay_ser (k place : Nat) (n y : PT) : lay3 k place (ser n (place + 1)) (ser y (place + 1 + n.size)) = ser (.ask k n y) place := by
  unfold lay3
  simp only [ser]
  congr 2
  · congr 1
    · cases n with
      | stop => simp [ser, rt]
      | ask a b c => simp [ser, rt]
    · cases y with
      | stop => simp [ser, rt]
      | ask a b c => simp [ser, rt, ser_len]
theorem cells_e3 (P : List C3) : ∀ e ∈ P.map e3, e.cells.length = 3 := fun e he => by
  obtain ⟨x, _, rfl⟩ := List.mem_map.1 he
  rfl
set_option maxHeartbeats 8000000 in
theorem pf_stepB {m : Nat} {t : List T} {us : List T} {ks : List Int} {k place : Nat} (ht : tmOk m t = true) (hm : m ≤ 5) (hl : ks.length = m) (hk : ks.all kOk = true) (hc : fcd m t ks = false) (hkk : ks[k]? = some (-1)) {N Y : List C3} (hb : place + 1 + N.length + Y.length ≤ 100)
    (CA : call lf n_impl_BestPlan_1 ([pD m t ks] ++ [.adr (.fn n_impl_averagesOf_1 [.adr (.sl 0 (us.map e2))])]) = some (.i k, []))
    (R0 : call lf n_impl_planFrom [pD m t (ks.set k 0), .i ((place + 1 : Nat) : Int), .fn n_impl_BestPlan_1 [.adr (.fn n_impl_averagesOf_1 [.adr (.sl 0 (us.map e2))])]] = some (.fr 3 (N.map e3), []))
    (R1 : call lf n_impl_planFrom [pD m t (ks.set k 1), .i ((place + 1 + N.length : Nat) : Int), .fn n_impl_BestPlan_1 [.adr (.fn n_impl_averagesOf_1 [.adr (.sl 0 (us.map e2))])]] = some (.fr 3 (Y.map e3), [])) :
    call lf n_impl_planFrom [pD m t ks, .i place, .fn n_impl_BestPlan_1 [.adr (.fn n_impl_averagesOf_1 [.adr (.sl 0 (us.map e2))])]] = some (.fr 3 ((lay3 k place N Y).map e3), []) := by
  have F := c_isForced ht hl hk
  rw [hc] at F
  have B0 := c_answered (m := m) (t := t) false (by omega) hk hkk
  have B1 := c_answered (m := m) (t := t) true (by omega) hk hkk
  rw [bI_0] at B0
  rw [bI_1] at B1
  have w1 : wr ((place : Int) + 1) = ((place + 1 : Nat) : Int) := by rw [wr_id (by omega) (by omega)]; omega
  have w2 : wr (((place + 1 : Nat) : Int) + (N.length : Int)) = ((place + 1 + N.length : Nat) : Int) := by rw [wr_id (by omega) (by omega)]; omega
  have cN := cells_e3 N
  have cY := cells_e3 Y
  have lN : (N.map e3).length = N.length := by simp
  have lY : (Y.map e3).length = Y.length := by simp
  have eN := lend_e3 N
  have eY := lend_e3 Y
  have aN' := fun x => adopt_e3 x N
  have aY' := fun x => adopt_e3 x Y
  have nN := new_e3 N
  have nY := new_e3 Y
  have CC := fun (a b : Int) => c_Concat (A := [.st [.i k, .i a, .i b]]) (B := N.map e3) (C := Y.map e3) (by simp) (by simp; omega) (fun e he => by
    have : e = .st [.i k, .i a, .i b] := by simpa using he
    rw [this]; rfl) cN cY
  have fin : (lay3 k place N Y).map e3 = [.st [.i k, .i (if N = [] then -1 else ((place + 1 : Nat) : Int)), .i (if Y = [] then -1 else ((place + 1 + N.length : Nat) : Int))]] ++ N.map e3 ++ Y.map e3 := by
    unfold lay3
    simp [e3]
  rw [fin]
  have tN : List.take N.length (N.map e3) = N.map e3 := List.take_of_length_le (by simp)
  have tY : List.take Y.length (Y.map e3) = Y.map e3 := List.take_of_length_le (by simp)
  rw [call_k lf n_impl_planFrom _ (F := F_impl_planFrom) rfl rfl]
  unfold pD pv at *
  simp only [List.cons_append, List.nil_append] at CA
  have gN : 0 < N.length ↔ N ≠ [] := List.length_pos_iff
  have gY : 0 < Y.length ↔ Y ≠ [] := List.length_pos_iff
  by_cases hN : N = []
  · have pN : ¬ 0 < N.length := fun h => gN.1 h hN
    rw [if_pos hN]
    by_cases hY : Y = []
    · have pY : ¬ 0 < Y.length := fun h => gY.1 h hY
      rw [if_pos hY]
      clear hN hY gN gY fin
      generalize N.map e3 = M at *
      generalize Y.map e3 = Q at *
      generalize N.length = n at *
      generalize Y.length = y at *
      simp [F_impl_planFrom, F, CA, B0, B1, R0, R1, w1, w2, pN, pY, CC, lN, lY, eN, eY, aN', aY', nN, nY, tN, tY, if_pos cN, if_pos cY, -Int.natCast_add]
    · have pY : 0 < Y.length := gY.2 hY
      rw [if_neg hY]
      clear hN hY gN gY fin
      generalize N.map e3 = M at *
      generalize Y.map e3 = Q at *
      generalize N.length = n at *
      generalize Y.length = y at *
      simp [F_impl_planFrom, F, CA, B0, B1, R0, R1, w1, w2, pN, pY, CC, lN, lY, eN, eY, aN', aY', nN, nY, tN, tY, if_pos cN, if_pos cY, -Int.natCast_add]
  · have pN : 0 < N.length := gN.2 hN
    rw [if_neg hN]
    by_cases hY : Y = []
    · have pY : ¬ 0 < Y.length := fun h => gY.1 h hY
      rw [if_pos hY]
      clear hN hY gN gY fin
      generalize N.map e3 = M at *
      generalize Y.map e3 = Q at *
      generalize N.length = n at *
      generalize Y.length = y at *
      simp [F_impl_planFrom, F, CA, B0, B1, R0, R1, w1, w2, pN, pY, CC, lN, lY, eN, eY, aN', aY', nN, nY, tN, tY, if_pos cN, if_pos cY, -Int.natCast_add]
    · have pY : 0 < Y.length := gY.2 hY
      rw [if_neg hY]
      clear hN hY gN gY fin
      generalize N.map e3 = M at *
      generalize Y.map e3 = Q at *
      generalize N.length = n at *
      generalize Y.length = y at *
      simp [F_impl_planFrom, F, CA, B0, B1, R0, R1, w1, w2, pN, pY, CC, lN, lY, eN, eY, aN', aY', nN, nY, tN, tY, if_pos cN, if_pos cY, -Int.natCast_add]
theorem pf_stopB {m : Nat} {t : List T} {us : List T} {ks : List Int} {place : Nat} (ht : tmOk m t = true) (hl : ks.length = m) (hk : ks.all kOk = true) (hc : fcd m t ks = true) :
    call lf n_impl_planFrom [pD m t ks, .i place, .fn n_impl_BestPlan_1 [.adr (.fn n_impl_averagesOf_1 [.adr (.sl 0 (us.map e2))])]] = some (.fr 3 [], []) := by
  have F := c_isForced ht hl hk
  rw [hc] at F
  rw [call_k lf n_impl_planFrom _ (F := F_impl_planFrom) rfl rfl]
  unfold pD pv at *
  simp [F_impl_planFrom, F]
set_option maxHeartbeats 8000000 in
theorem pf_stepO {m : Nat} {t : List T} {os : List Int} {ks : List Int} {k place : Nat} (ht : tmOk m t = true) (hm : m ≤ 5) (hl : ks.length = m) (hk : ks.all kOk = true) (hc : fcd m t ks = false) (hkk : ks[k]? = some (-1)) {N Y : List C3} (hb : place + 1 + N.length + Y.length ≤ 100)
    (CA : call lf n_impl_OrderPlan_1 ([pD m t ks] ++ [.adr (.sl 0 (os.map .i))]) = some (.i k, []))
    (R0 : call lf n_impl_planFrom [pD m t (ks.set k 0), .i ((place + 1 : Nat) : Int), .fn n_impl_OrderPlan_1 [.adr (.sl 0 (os.map .i))]] = some (.fr 3 (N.map e3), []))
    (R1 : call lf n_impl_planFrom [pD m t (ks.set k 1), .i ((place + 1 + N.length : Nat) : Int), .fn n_impl_OrderPlan_1 [.adr (.sl 0 (os.map .i))]] = some (.fr 3 (Y.map e3), [])) :
    call lf n_impl_planFrom [pD m t ks, .i place, .fn n_impl_OrderPlan_1 [.adr (.sl 0 (os.map .i))]] = some (.fr 3 ((lay3 k place N Y).map e3), []) := by
  have F := c_isForced ht hl hk
  rw [hc] at F
  have B0 := c_answered (m := m) (t := t) false (by omega) hk hkk
  have B1 := c_answered (m := m) (t := t) true (by omega) hk hkk
  rw [bI_0] at B0
  rw [bI_1] at B1
  have w1 : wr ((place : Int) + 1) = ((place + 1 : Nat) : Int) := by rw [wr_id (by omega) (by omega)]; omega
  have w2 : wr (((place + 1 : Nat) : Int) + (N.length : Int)) = ((place + 1 + N.length : Nat) : Int) := by rw [wr_id (by omega) (by omega)]; omega
  have cN := cells_e3 N
  have cY := cells_e3 Y
  have lN : (N.map e3).length = N.length := by simp
  have lY : (Y.map e3).length = Y.length := by simp
  have eN := lend_e3 N
  have eY := lend_e3 Y
  have aN' := fun x => adopt_e3 x N
  have aY' := fun x => adopt_e3 x Y
  have nN := new_e3 N
  have nY := new_e3 Y
  have CC := fun (a b : Int) => c_Concat (A := [.st [.i k, .i a, .i b]]) (B := N.map e3) (C := Y.map e3) (by simp) (by simp; omega) (fun e he => by
    have : e = .st [.i k, .i a, .i b] := by simpa using he
    rw [this]; rfl) cN cY
  have fin : (lay3 k place N Y).map e3 = [.st [.i k, .i (if N = [] then -1 else ((place + 1 : Nat) : Int)), .i (if Y = [] then -1 else ((place + 1 + N.length : Nat) : Int))]] ++ N.map e3 ++ Y.map e3 := by
    unfold lay3
    simp [e3]
  rw [fin]
  have tN : List.take N.length (N.map e3) = N.map e3 := List.take_of_length_le (by simp)
  have tY : List.take Y.length (Y.map e3) = Y.map e3 := List.take_of_length_le (by simp)
  rw [call_k lf n_impl_planFrom _ (F := F_impl_planFrom) rfl rfl]
  unfold pD pv at *
  simp only [List.cons_append, List.nil_append] at CA
  have gN : 0 < N.length ↔ N ≠ [] := List.length_pos_iff
  have gY : 0 < Y.length ↔ Y ≠ [] := List.length_pos_iff
  by_cases hN : N = []
  · have pN : ¬ 0 < N.length := fun h => gN.1 h hN
    rw [if_pos hN]
    by_cases hY : Y = []
    · have pY : ¬ 0 < Y.length := fun h => gY.1 h hY
      rw [if_pos hY]
      clear hN hY gN gY fin
      generalize N.map e3 = M at *
      generalize Y.map e3 = Q at *
      generalize N.length = n at *
      generalize Y.length = y at *
      simp [F_impl_planFrom, F, CA, B0, B1, R0, R1, w1, w2, pN, pY, CC, lN, lY, eN, eY, aN', aY', nN, nY, tN, tY, if_pos cN, if_pos cY, -Int.natCast_add]
    · have pY : 0 < Y.length := gY.2 hY
      rw [if_neg hY]
      clear hN hY gN gY fin
      generalize N.map e3 = M at *
      generalize Y.map e3 = Q at *
      generalize N.length = n at *
      generalize Y.length = y at *
      simp [F_impl_planFrom, F, CA, B0, B1, R0, R1, w1, w2, pN, pY, CC, lN, lY, eN, eY, aN', aY', nN, nY, tN, tY, if_pos cN, if_pos cY, -Int.natCast_add]
  · have pN : 0 < N.length := gN.2 hN
    rw [if_neg hN]
    by_cases hY : Y = []
    · have pY : ¬ 0 < Y.length := fun h => gY.1 h hY
      rw [if_pos hY]
      clear hN hY gN gY fin
      generalize N.map e3 = M at *
      generalize Y.map e3 = Q at *
      generalize N.length = n at *
      generalize Y.length = y at *
      simp [F_impl_planFrom, F, CA, B0, B1, R0, R1, w1, w2, pN, pY, CC, lN, lY, eN, eY, aN', aY', nN, nY, tN, tY, if_pos cN, if_pos cY, -Int.natCast_add]
    · have pY : 0 < Y.length := gY.2 hY
      rw [if_neg hY]
      clear hN hY gN gY fin
      generalize N.map e3 = M at *
      generalize Y.map e3 = Q at *
      generalize N.length = n at *
      generalize Y.length = y at *
      simp [F_impl_planFrom, F, CA, B0, B1, R0, R1, w1, w2, pN, pY, CC, lN, lY, eN, eY, aN', aY', nN, nY, tN, tY, if_pos cN, if_pos cY, -Int.natCast_add]
theorem pf_stopO {m : Nat} {t : List T} {os : List Int} {ks : List Int} {place : Nat} (ht : tmOk m t = true) (hl : ks.length = m) (hk : ks.all kOk = true) (hc : fcd m t ks = true) :
    call lf n_impl_planFrom [pD m t ks, .i place, .fn n_impl_OrderPlan_1 [.adr (.sl 0 (os.map .i))]] = some (.fr 3 [], []) := by
  have F := c_isForced ht hl hk
  rw [hc] at F
  rw [call_k lf n_impl_planFrom _ (F := F_impl_planFrom) rfl rfl]
  unfold pD pv at *
  simp [F_impl_planFrom, F]
end
section
attribute [-simp] DV.cells
attribute [local simp] sliceD cells_st cells_sl cells_i cells_y cells_b cells_s cells_w
attribute [local simp] lend_e3 adopt_e3 new_e3 al_e3 lt_e3
theorem lsF_root {us t : List T} (h : us.all tOk = true) : (lsF us.length t (avQ us) us.length (non us.length)).2 = bA us t := by
  obtain ⟨_, a2, _⟩ := lsF_bPl h (t := t) us.length (non us.length) (non_len _) (non_all _) (by rw [uk_non]; exact Nat.le_refl _)
  rw [kp_non, Int.one_mul] at a2
  exact a2
set_option maxHeartbeats 4000000 in
theorem c_impl_BestAverage (us t : List T) (ha : (us.length : Int) < 1099511627776) (hb : (t.length : Int) < 1099511627776) : call lf n_impl_BestAverage [.sl 0 (us.map e2), .sl 0 (t.map e2)] = some (.i (baOf us t), []) := by
  have C1 := c_impl_TestsOk us ha
  have C2 := c_impl_TermOk us.length t hb
  have ul : (us.map e2).length = us.length := by simp
  rw [call_k lf n_impl_BestAverage _ (F := F_impl_BestAverage) rfl rfl]
  unfold baOf
  cases h1 : tsOk us with
  | false => rw [h1] at C1; simp [F_impl_BestAverage, C1]
  | true =>
    rw [h1] at C1
    have h' := tsOk_iff.1 h1
    cases h2 : tmOk us.length t with
    | false => rw [h2] at C2; simp [F_impl_BestAverage, C1, C2]
    | true =>
      rw [h2] at C2
      have C3 := c_startOf (t := t) (by omega) h2
      have C4 := c_averagesOf us
      have C5 := c_leastFromA h'.2 (by omega) h2 us.length (non us.length) (by omega) (non_len _) (non_all _) (by rw [uk_non]; exact Nat.le_refl _)
      rw [lsF_root h'.2] at C5
      generalize (lsF us.length t (avQ us) us.length (non us.length)).1 = x at *
      unfold pD pv at *
      simp [F_impl_BestAverage, C1, C2, C3, C4, C5]
set_option maxHeartbeats 4000000 in
theorem c_BestPlan_1 {us t : List T} (hu : us.all tOk = true) (hm : 1 ≤ us.length ∧ us.length ≤ 5) (ht : tmOk us.length t = true) {f : Nat} {ks : List Int} (hf5 : f ≤ 5) (hl : ks.length = us.length) (hk : ks.all kOk = true) (hf : uk ks ≤ f) :
    call lf n_impl_BestPlan_1 [pD us.length t ks, .adr (.fn n_impl_averagesOf_1 [.adr (.sl 0 (us.map e2))])] = some (.i (bPl us t f ks).2, []) := by
  have C := c_leastFromA hu hm ht f ks hf5 hl hk hf
  rw [(lsF_bPl hu f ks hl hk hf).2.2] at C
  rw [call_k lf n_impl_BestPlan_1 _ (F := F_impl_BestPlan_1) rfl rfl]
  generalize (lsF us.length t (avQ us) f ks).2 = x at *
  unfold pD pv at *
  simp [F_impl_BestPlan_1, C]
theorem bT_pf {us t : List T} (hu : us.all tOk = true) (hm : 1 ≤ us.length ∧ us.length ≤ 5) (ht : tmOk us.length t = true) : ∀ (f : Nat) (ks : List Int) (place : Nat), f ≤ 5 → ks.length = us.length → ks.all kOk = true → uk ks ≤ f → place + (bT us t f ks).size ≤ 40 →
    call lf n_impl_planFrom [pD us.length t ks, .i place, .fn n_impl_BestPlan_1 [.adr (.fn n_impl_averagesOf_1 [.adr (.sl 0 (us.map e2))])]] = some (.fr 3 ((ser (bT us t f ks) place).map e3), [])
  | f, ks, place, hf5, hl, hk, hf, hp => by
    have B := bPl_ok (t := t) hu f ks hl hk hf
    cases hc : fcd us.length t ks with
    | true =>
      have e : bT us t f ks = .stop := by
        cases f with
        | zero => rfl
        | succ f => simp only [bT]; rw [B.stop hc, if_pos rfl]
      rw [e]
      exact pf_stopB ht hl hk hc
    | false =>
      cases f with
      | zero =>
        rw [fcd_all hl hk (by omega)] at hc
        cases hc
      | succ f =>
        obtain ⟨k, k1, k2, _, _⟩ := B.go hc
        have hn : (bPl us t (f + 1) ks).2 ≠ -1 := by omega
        have e : bT us t (f + 1) ks = .ask k (bT us t f (ks.set k 0)) (bT us t f (ks.set k 1)) := by
          simp only [bT]
          rw [if_neg hn, k2, Int.toNat_natCast]
        have CA := c_BestPlan_1 hu hm ht hf5 hl hk hf
        rw [k2] at CA
        rw [e] at hp ⊢
        simp only [PT.size] at hp
        have us' := fun (b : Bool) => uk_set (b := bI b) (by cases b <;> simp [bI]) k1
        have u0 := us' false
        have u1 := us' true
        rw [bI_0] at u0
        rw [bI_1] at u1
        have G0 := bT_pf hu hm ht f (ks.set k 0) (place + 1) (by omega) (by simpa using hl) (kOk_set hk k false) (by omega) (by omega)
        have G1 := bT_pf hu hm ht f (ks.set k 1) (place + 1 + (bT us t f (ks.set k 0)).size) (by omega) (by simpa using hl) (kOk_set hk k true) (by omega) (by omega)
        have l0 := ser_len (bT us t f (ks.set k 0)) (place + 1)
        have l1 := ser_len (bT us t f (ks.set k 1)) (place + 1 + (bT us t f (ks.set k 0)).size)
        rw [← lay_ser]
        exact pf_stepB ht hm.2 hl hk hc k1 (by omega) CA G0 (by rw [l0]; exact G1)
set_option maxHeartbeats 4000000 in
theorem c_impl_BestPlan (us t : List T) (ha : (us.length : Int) < 1099511627776) (hb : (t.length : Int) < 1099511627776) : call lf n_impl_BestPlan [.sl 0 (us.map e2), .sl 0 (t.map e2)] = some (.tup [.fr 3 ((bpL us t).map e3), .b (bpOk us t)], []) := by
  have C1 := c_impl_TestsOk us ha
  have C2 := c_impl_TermOk us.length t hb
  have ul : (us.map e2).length = us.length := by simp
  rw [call_k lf n_impl_BestPlan _ (F := F_impl_BestPlan) rfl rfl]
  unfold bpL bpOk
  cases h1 : tsOk us with
  | false => rw [h1] at C1; simp [F_impl_BestPlan, C1]
  | true =>
    rw [h1] at C1
    have h' := tsOk_iff.1 h1
    cases h2 : tmOk us.length t with
    | false => rw [h2] at C2; simp [F_impl_BestPlan, C1, C2]
    | true =>
      rw [h2] at C2
      have hm : 1 ≤ us.length ∧ us.length ≤ 5 := by omega
      have C3 := c_startOf (t := t) hm.2 h2
      have C4 := c_averagesOf us
      have z := okT_size hm.2 (bX_ok (t := t) h'.2).1
      have C5 := bT_pf h'.2 hm h2 us.length (non us.length) 0 hm.2 (non_len _) (non_all _) (by rw [uk_non]; exact Nat.le_refl _) (by have : bT us t us.length (non us.length) = bX us t := rfl; rw [this]; omega)
      have e : bT us t us.length (non us.length) = bX us t := rfl
      rw [e] at C5
      have n3 := adopt_e3
      have nw := new_e3 (ser (bX us t) 0)
      have ad := fun x => adopt_e3 x (ser (bX us t) 0)
      simp only [Int.natCast_zero] at C5
      rw [Bool.and_self, if_pos rfl]
      generalize ser (bX us t) 0 = Q at *
      have lQ : (Q.map e3).length = Q.length := by simp
      have tk := tk_e3 Q
      generalize Q.map e3 = M at *
      unfold pD pv at *
      have cf : ∀ (f : Nat) (cs : List DV), (DV.fn f cs).cells = [.fn f cs] := fun _ _ => rfl
      have cd : DV.dead.cells = [.dead] := rfl
      simp [F_impl_BestPlan, C1, C2, C3, C4, C5, nw, ad, tk, lQ, cf, cd]
theorem c_OrderPlan_1 {m : Nat} {t : List T} {os : List Int} {ks : List Int} {a : Int} (hl : ks.length ≤ 5) (ho : os[kn ks]? = some a) :
    call lf n_impl_OrderPlan_1 [pD m t ks, .adr (.sl 0 (os.map .i))] = some (.i a, []) := by
  have H := c_howMany (m := m) (t := t) (ks := ks) hl
  have A : atI (os.map DV.i) (kn ks : Int) = some (.i a) := by
    simp only [atI, if_pos (Int.natCast_nonneg (kn ks))]
    show (os.map DV.i)[((kn ks : Nat) : Int).toNat]? = _
    rw [Int.toNat_natCast, List.getElem?_map, ho]; rfl
  rw [call_k lf n_impl_OrderPlan_1 _ (F := F_impl_OrderPlan_1) rfl rfl]
  unfold pD pv at *
  generalize os.map DV.i = M at *
  generalize kn ks = n at *
  simp [F_impl_OrderPlan_1, H, A]
theorem lnT_pf {m : Nat} {t : List T} {os : List Int} (hm : 1 ≤ m ∧ m ≤ 5) (ht : tmOk m t = true) : ∀ (r : List Int) (ks : List Int) (so place : Nat), os.drop (kn ks) = r → ks.length = m → ks.all kOk = true → hkn m ks so → orS m so r = true → uk ks = r.length → place + (lnT m t r ks).size ≤ 40 →
    call lf n_impl_planFrom [pD m t ks, .i place, .fn n_impl_OrderPlan_1 [.adr (.sl 0 (os.map .i))]] = some (.fr 3 ((ser (lnT m t r ks) place).map e3), [])
  | [], ks, so, place, hd, hl, hk, hh, ho, hu, hp => by
    have hc := fcd_all (t := t) hl hk (by simpa using hu)
    exact pf_stopO ht hl hk hc
  | a :: r, ks, so, place, hd, hl, hk, hh, ho, hu, hp => by
    cases hc : fcd m t ks with
    | true =>
      have e : lnT m t (a :: r) ks = .stop := by simp only [lnT]; rw [if_pos hc]
      rw [e]
      exact pf_stopO ht hl hk hc
    | false =>
      have e : lnT m t (a :: r) ks = .ask a.toNat (lnT m t r (ks.set a.toNat 0)) (lnT m t r (ks.set a.toNat 1)) := by simp only [lnT]; rw [if_neg (by rw [hc]; simp)]
      obtain ⟨⟨a0, a1⟩, a2, a3⟩ := orS_cons.1 ho
      obtain ⟨k, rfl⟩ := Int.eq_ofNat_of_zero_le a0
      rw [Int.toNat_natCast] at *
      have hkk : ks[k]? = some (-1) := (hh k (by omega)).2 a2
      have us' := fun (b : Bool) => uk_set (b := bI b) (by cases b <;> simp [bI]) hkk
      have u0 := us' false
      have u1 := us' true
      rw [bI_0] at u0
      rw [bI_1] at u1
      have n0 := kn_set (b := 0) (by decide) hkk
      have n1 := kn_set (b := 1) (by decide) hkk
      have at0 : os[kn ks]? = some (k : Int) := by
        have : (os.drop (kn ks))[0]? = some (k : Int) := by rw [hd]; rfl
        rw [List.getElem?_drop, Nat.add_zero] at this
        exact this
      have dr : os.drop (kn ks + 1) = r := by
        rw [← List.drop_drop, hd]
        rfl
      have CA := c_OrderPlan_1 (m := m) (t := t) (by omega) at0
      rw [e] at hp ⊢
      simp only [PT.size] at hp
      have h0 : hkn m (ks.set k 0) (so ||| 2 ^ k) := hkn_set hl (by omega) hh false
      have h1 : hkn m (ks.set k 1) (so ||| 2 ^ k) := hkn_set hl (by omega) hh true
      simp only [List.length_cons] at hu
      have G0 := lnT_pf hm ht r (ks.set k 0) (so ||| 2 ^ k) (place + 1) (by rw [n0]; exact dr) (by simpa using hl) (kOk_set hk k false) h0 a3 (by omega) (by omega)
      have G1 := lnT_pf hm ht r (ks.set k 1) (so ||| 2 ^ k) (place + 1 + (lnT m t r (ks.set k 0)).size) (by rw [n1]; exact dr) (by simpa using hl) (kOk_set hk k true) h1 a3 (by omega) (by omega)
      have l0 := ser_len (lnT m t r (ks.set k 0)) (place + 1)
      have l1 := ser_len (lnT m t r (ks.set k 1)) (place + 1 + (lnT m t r (ks.set k 0)).size)
      rw [← lay_ser]
      exact pf_stepO ht hm.2 hl hk hc hkk (by omega) CA G0 (by rw [l0]; exact G1)
set_option maxHeartbeats 4000000 in
theorem c_impl_OrderPlan (m : Int) (t : List T) (os : List Int) (ha : (os.length : Int) < 1099511627776) (hb : (t.length : Int) < 1099511627776) : call lf n_impl_OrderPlan [.i m, .sl 0 (t.map e2), .sl 0 (os.map .i)] = some (.tup [.fr 3 ((opL m t os).map e3), .b (opOk m t os)], []) := by
  have C1 := c_impl_TermOk m t hb
  have C2 := c_impl_OrderOk m os ha
  rw [call_k lf n_impl_OrderPlan _ (F := F_impl_OrderPlan) rfl rfl]
  cases h1 : tmOk m t with
  | false =>
    rw [h1] at C1
    have e : opOk m t os = false := by unfold opOk; rw [h1]; rfl
    unfold opL
    rw [e]
    simp [F_impl_OrderPlan, C1]
  | true =>
    rw [h1] at C1
    cases h2 : orOk m os with
    | false =>
      rw [h2] at C2
      have e : opOk m t os = false := by unfold opOk; rw [h1, h2]; rfl
      unfold opL
      rw [e]
      simp [F_impl_OrderPlan, C1, C2]
    | true =>
      rw [h2] at C2
      have e : opOk m t os = true := by unfold opOk; rw [h1, h2]; rfl
      have ok := opX_ok e
      obtain ⟨g1, g2, g3⟩ := orOk_iff.1 h2
      obtain ⟨n, rfl⟩ := Int.eq_ofNat_of_zero_le (a := m) (by omega)
      rw [Int.toNat_natCast] at ok
      have C3 := c_startOf (t := t) (m := n) (by omega) h1
      have sz := okT_size (m := n) (by omega) ok
      have ex : lnT n t os (non n) = opX n t os := rfl
      have C5 := lnT_pf (m := n) (t := t) (os := os) (by omega) h1 os (non n) 0 0 (by rw [kn_non]; rfl) (non_len _) (non_all _) (non_kn _) g3 (by rw [uk_non]; omega) (by rw [ex]; omega)
      rw [ex] at C5
      unfold opL
      rw [e, if_pos rfl]
      have nw := new_e3 (ser (opX n t os) 0)
      have ad := fun x => adopt_e3 x (ser (opX n t os) 0)
      simp only [Int.natCast_zero] at C5
      generalize ser (opX n t os) 0 = Q at *
      have lQ : (Q.map e3).length = Q.length := by simp
      have tk := tk_e3 Q
      generalize Q.map e3 = M at *
      unfold pD pv at *
      simp [F_impl_OrderPlan, C1, C2, C3, C5, nw, ad, tk, lQ]
end
section
attribute [-simp] DV.cells
attribute [local simp] sliceD cells_st cells_sl cells_i cells_y cells_b cells_s cells_w
attribute [local simp] lend_e3 adopt_e3 new_e3 al_e3 lt_e3
theorem sub_asks {m : Nat} {t : List T} {P : List C3} {g : Nat} : ∀ {L : LT} {a : Int} {ks : List Int}, enc P a L → okT m t ks L.er → 0 < L.cnt g → ∃ (k : Nat) (no ye : Int), P[g]? = some ((k : Int), no, ye) ∧ k < ks.length ∧ asks k L.er
  | .stop, _, _, _, _, h => by simp [LT.cnt] at h
  | .ask p k n y, a, ks, ⟨e, no, ye, h1, h2, h3, h4, h5⟩, ⟨o1, o2, o3, o4⟩, h => by
    simp only [LT.cnt] at h
    by_cases hp : p = g
    · subst hp
      exact ⟨k, no, ye, h1, ks_ex o2, .inl rfl⟩
    · rw [if_neg hp] at h
      by_cases hn : 0 < n.cnt g
      · clear h
        obtain ⟨j, a, b, q1, q2, q3⟩ := sub_asks h4 o3 hn
        exact ⟨j, a, b, q1, by simpa using q2, .inr (.inl q3)⟩
      · have hy : 0 < y.cnt g := by omega
        obtain ⟨j, a, b, q1, q2, q3⟩ := sub_asks h5 o4 hy
        exact ⟨j, a, b, q1, by simpa using q2, .inr (.inr q3)⟩
def stBp (us t : List T) (P : List C3) (d : Int) (i : Nat) : LS :=
  ⟨[(3, .own 8209 us.length 0 us.length), (4, .own 8210 t.length 0 t.length), (5, .own 11289 P.length 0 P.length), (7, .own 14361 P.length 0 P.length), (9, .i d), (10, .i i)], [(8209, us.map e2), (8210, t.map e2), (11289, P.map e3), (14361, P.map e3)]⟩
set_option maxHeartbeats 8000000 in
theorem law_FnBestPlan (x : List Nat) (_ : x.length ≤ Go.maxLen) (hb : ∀ y ∈ x, y < 256) : call lf n_laws_FnBestPlan [bys x] = some (.b true, []) := by
  show call lf n_laws_FnBestPlan [.sl 0 (x.map .y)] = _
  rw [call_k lf n_laws_FnBestPlan _ (F := F_laws_FnBestPlan) rfl rfl]
  by_cases hl : 1048576 < (x.length : Int)
  · simp (config := { maxSteps := 2000000 }) [F_laws_FnBestPlan, hl]
  · obtain ⟨us, t, u1, t1, d⟩ := c_DrawBestPlan hb (by omega)
    have D1 := c_impl_BestPlan us t (by omega) (by omega)
    have D2 := c_spec_BestPlan us t (by omega) (by omega)
    have LN := bpL_len us t
    have SP := c_samePlan_self (bpL us t) (by omega)
    have tk := tk_e3 (bpL us t)
    cases h : bpOk us t with
    | false =>
      have e : bpL us t = [] := by unfold bpL; rw [h]; rfl
      rw [h, e] at D1 D2
      rw [e, List.map_nil] at SP
      simp (config := { maxSteps := 2000000 }) [F_laws_FnBestPlan, hl, d, D1, D2, SP, c_alive]
    | true =>
      have e : bpL us t = ser (bX us t) 0 := by unfold bpL; rw [h]; rfl
      rw [h] at D1 D2
      unfold bpOk at h
      rw [Bool.and_eq_true] at h
      obtain ⟨hu, ht⟩ := h
      have hu' := tsOk_iff.1 hu
      obtain ⟨o1, o2⟩ := bX_ok (t := t) hu'.2
      have hP : isPl us.length t (bpL us t) (lab (bX us t) 0) := by rw [e]; exact ser_pl (by omega) o1
      have D3 := c_impl_PlanOk (m := us.length) (t := t) (P := bpL us t) (by omega) (by omega)
      rw [pk_iff.2 ⟨ht, _, hP⟩] at D3
      have D4 := c_impl_AverageBy hu ht hP
      rw [lab_er, o2] at D4
      have D5 := c_impl_BestAverage us t (by omega) (by omega)
      rw [show baOf us t = bA us t by unfold baOf; rw [hu, ht]; rfl] at D5
      have D6 := c_impl_IdleTests us.length t (by omega)
      have ide : idOf us.length t = (tabN (idP us.length t) us.length : Nat) := by unfold idOf; rw [ht, if_pos rfl, Int.toNat_natCast]
      rw [ide] at D6
      have LP := loop_count (lf := lf) (L := F_laws_FnBestPlan_L0) (bpL us t).length (fun i => stBp us t (bpL us t) (tabN (idP us.length t) us.length : Nat) i) (x := .exit 0) (R := stBp us t (bpL us t) (tabN (idP us.length t) us.length : Nat) (bpL us t).length) (fun i hi => by
        have hc := all_in hP.on.1 hP.e hP.sz i hi
        obtain ⟨k, no, ye, hk, km, ka⟩ := sub_asks hP.e hP.ok (g := i) (by omega)
        rw [non_len] at km
        rw [lab_er] at ka
        have ni : idP us.length t k = false := by
          cases hi : idP us.length t k with
          | false => rfl
          | true => exact absurd ka (bT_idle hu'.2 hi us.length (non us.length) (non_len _) (non_all _) (by rw [uk_non]; exact Nat.le_refl _))
        have tb : (tabN (idP us.length t) us.length).testBit k = false := by rw [tabN_bit, ni, Bool.and_false]
        have bb := bit_bI (a := tabN (idP us.length t) us.length) (s := k) (by omega)
        rw [tb] at bb
        simp only [bI, Bool.false_eq_true, if_false] at bb
        have AT := at_e3 hk
        have AN := atN_e3 hk
        have hi' : (i : Int) < (bpL us t).length := by omega
        have w1 : wr ((i : Int) + 1) = ((i + 1 : Nat) : Int) := by rw [wr_id (by omega) (by omega)]; omega
        have lm : ((bpL us t).map e3).length = (bpL us t).length := by simp
        have nk : ¬ (k : Int) < 0 := by omega
        unfold stBp
        generalize tabN (idP us.length t) us.length = v at *
        generalize bpL us t = P at *
        generalize P.map e3 = E at *
        simp [F_laws_FnBestPlan_L0, hi', AT, AN, w1, lm, tk, bb, nk, -Int.natCast_add]) (by
        unfold stBp
        simp [F_laws_FnBestPlan_L0]) (by intro h; cases h)
      unfold stBp at LP
      simp only [Int.natCast_zero] at LP
      change ex lf F_laws_FnBestPlan_W0 _ = _ at LP
      generalize tabN (idP us.length t) us.length = v at *
      generalize bpL us t = P at *
      simp (config := { maxSteps := 2000000 }) [F_laws_FnBestPlan, hl, d, D1, D2, SP, D3, D4, D5, D6, LP, tk]
end
section
attribute [-simp] DV.cells
attribute [local simp] sliceD cells_st cells_sl cells_i cells_y cells_b cells_s cells_w
attribute [local simp] lend_e3 adopt_e3 new_e3 al_e3 lt_e3
set_option maxHeartbeats 8000000 in
theorem law_FnOrderPlan (x : List Nat) (_ : x.length ≤ Go.maxLen) (hb : ∀ y ∈ x, y < 256) (y : List Nat) (_ : y.length ≤ Go.maxLen) (hb2 : ∀ z ∈ y, z < 256) : call lf n_laws_FnOrderPlan [bys x, bys y] = some (.b true, []) := by
  show call lf n_laws_FnOrderPlan [.sl 0 (x.map .y), .sl 0 (y.map .y)] = _
  rw [call_k lf n_laws_FnOrderPlan _ (F := F_laws_FnOrderPlan) rfl rfl]
  by_cases hl : 1048576 < (x.length : Int)
  · simp (config := { maxSteps := 2000000 }) [F_laws_FnOrderPlan, hl]
  · by_cases hl2 : 1048576 < (y.length : Int)
    · simp (config := { maxSteps := 2000000 }) [F_laws_FnOrderPlan, hl, hl2]
    · obtain ⟨m, t, os, m5, t1, o1, d⟩ := c_DrawOrderPlan hb (by omega)
      obtain ⟨us, row, u1, r1, d2⟩ := c_DrawRatioOrder hb2 (by omega)
      have D1 := c_impl_OrderPlan m t os (by omega) (by omega)
      have D2 := c_spec_OrderPlan m t os (by omega) (by omega)
      have LN := opL_len m t os
      have SP := c_samePlan_self (opL m t os) (by omega)
      have tk := tk_e3 (opL m t os)
      cases h : opOk m t os with
      | false =>
        have e : opL m t os = [] := by unfold opL; rw [h]; rfl
        rw [h, e] at D1 D2
        rw [e, List.map_nil] at SP
        simp (config := { maxSteps := 2000000 }) [F_laws_FnOrderPlan, hl, hl2, d, D1, D2, SP, c_alive]
      | true =>
        have e : opL m t os = ser (opX m t os) 0 := by unfold opL; rw [h]; rfl
        rw [h] at D1 D2
        have ox := opX_ok h
        rw [Int.toNat_natCast] at ox
        have hP : isPl m t (opL m t os) (lab (opX m t os) 0) := by rw [e]; exact ser_pl (by omega) ox
        unfold opOk at h
        rw [Bool.and_eq_true] at h
        obtain ⟨ht, ho⟩ := h
        have D3 := c_impl_PlanOk (m := m) (t := t) (P := opL m t os) (by omega) (by omega)
        rw [pk_iff.2 ⟨ht, _, hP⟩] at D3
        have D4 := c_impl_DepthOf ht hP
        rw [lab_er] at D4
        have dl := dpT_le (opX m t os) (non m) (non_len _) ox
        rw [uk_non] at dl
        have D5 := c_spec_TestsOk us (by omega)
        have n0 : ¬ ((dpT (opX m t os) : Nat) : Int) < 0 := by omega
        have n1 : (0 : Int) ≤ (dpT (opX m t os) : Nat) := by omega
        have n2 : ((dpT (opX m t os) : Nat) : Int) ≤ m := by omega
        cases hu : tsOk us with
        | false =>
          rw [hu] at D5
          generalize dpT (opX m t os) = D at *
          generalize opL m t os = P at *
          simp (config := { maxSteps := 2000000 }) [F_laws_FnOrderPlan, hl, hl2, d, d2, D1, D2, SP, D3, D4, D5, n1, n2, tk]
        | true =>
          rw [hu] at D5
          by_cases hm : us.length = m
          · subst hm
            have q := ordT (t := t) hu ho
            have ex : lnT us.length t os (non us.length) = opX us.length t os := by unfold opX; rw [Int.toNat_natCast]
            rw [ex] at q
            have D6 := c_impl_AverageBy hu ht hP
            rw [lab_er, q.2] at D6
            have D7 := c_impl_AverageIn us t os (by omega) (by omega) (by omega)
            rw [show avOf us t os = avO us t os by unfold avOf avOk; rw [hu, ht, ho]; rfl] at D7
            generalize dpT (opX us.length t os) = D at *
            generalize opL us.length t os = P at *
            generalize avO us t os = A at *
            simp (config := { maxSteps := 2000000 }) [F_laws_FnOrderPlan, hl, hl2, d, d2, D1, D2, SP, D3, D4, D5, D6, D7, n1, n2, tk]
          · have hm' : ((us.length : Int) != (m : Int)) = true := bne_iff_ne.2 (by omega)
            generalize dpT (opX m t os) = D at *
            generalize opL m t os = P at *
            simp (config := { maxSteps := 2000000 }) [F_laws_FnOrderPlan, hl, hl2, d, d2, D1, D2, SP, D3, D4, D5, n1, n2, hm', tk]
end
end Zz
