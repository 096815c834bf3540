/- What the functions answer, as equations: EB. No conditions. -/
import Derived.Test.YtdkcoaajodbnbaaDoorEA
set_option linter.unusedSectionVars false
set_option linter.unusedVariables false
set_option linter.unusedSimpArgs false
namespace Zz
open Go.Lg Md
set_option linter.unusedSimpArgs false
set_option linter.unusedVariables false
attribute [local simp] ia_mv ia_newnil ia_pick ia_bin ia_eqb ia_eqs ia_un ia_len ia_lens ia_chk ia_fld ia_fldv ia_idxa ia_idx ia_load ia_store ia_slice ia_slices ia_make ia_alloc ia_box ia_build ia_bslice ia_app ia_b2i ia_i2b ia_i2i ia_same ia_b2s ia_s2b ia_ext ia_mm ia_idxp ia_calld ia_mkfn ia_i2r ia_r2s ia_call pt_nil pt_cons mi_nil mi_cons md_bslice md_mv md_newnil md_pick md_bin md_eqb md_un md_len md_lens md_fld md_fldv md_idxa md_idx md_load md_store md_slice md_slices md_make md_alloc md_box md_build md_app md_conv md_ext md_call md_calld md_callg md_mkfn md_mm md_idxp md_eqn md_eqs md_chk tg_bslice tg_mv tg_newnil tg_pick tg_bin tg_eqb tg_un tg_len tg_lens tg_fld tg_fldv tg_idxa tg_idx tg_load tg_store tg_slice tg_slices tg_make tg_alloc tg_box tg_build tg_app tg_conv tg_ext tg_call tg_calld tg_callg tg_mkfn tg_mm tg_idxp tg_eqn tg_eqs tg_chk rp_eq ro_eq ifP_t ifP_f np_def ng1_nil ng2_nil ng_gate ng_gen tgA_t tgA_0 tgA_1 tgA_2 aC_nil aC_c aC_t nxP_some nxP_none rq_nil rq_gen rq_gate nxR_some nxR_none ru_nil ru_gen ru_gate pl_none pl_some gt_nil gt_t gt_c di_some di_none an_nil an_cons nxG_some nxG_none rg_nil rg_gen rg_gate oldO_some oa_nil oa_i oa_y oa_b oa_s oa_st oa_sl oa_own oa_oad oa_nl al_nil al_cons al_i al_y al_b al_s al_st al_sl nxF_some nxF_none rf_nil rf_gen rf_gate hk_newnil hk_make hk_alloc hk_box hk_build hk_bslice hk_call hk_store hk_app cl_nil cl_cons ai_nil ai_cons il_i il_y il_b il_s il_st il_sl il_own il_adr il_oad il_ref il_fr il_tup il_nil il_np il_und il_dead ol_adr ol_b ol_dead ol_e ol_fn ol_fr ol_i ol_nil ol_np ol_oad ol_own ol_q ol_r ol_ref ol_s ol_sl ol_st ol_tup ol_und ol_w ol_y oj_e oj_i oj_y oj_b oj_s oj_st oj_sl oj_own oj_adr oj_oad oj_ref oj_fr oj_tup oj_nil oj_np oj_und oj_dead oj_w oj_q oj_r oj_fn oi_e oi_i oi_y oi_b oi_s oi_st oi_sl oi_own oi_adr oi_oad oi_ref oi_fr oi_tup oi_nil oi_np oi_und oi_dead as_nil as_cons ao_nil ao_cons av_i av_y av_b av_s av_st av_sl av_own av_adr av_oad av_ref av_fr av_tup av_nil av_np av_und av_dead pro_cons ghK_some ks_promote ks_freeze frz_own ks_rename ren_own dropO adoptP newP wholeP cutP allOldL ex_skip ex_ret ex_exit ks_region ks_seq ks_cond ks_block seqK_n seqK_e seqK_r regK_some condK_t condK_f blkK_n blkK_r blkK_e endK_n endK_r rr_false rr_true rd_free mo_nil mo_cons drK_some drK_none nxW_some nxW_none rw_nil rw_gen rw_gate ak_newnil ak_make ak_alloc ak_box ak_build ak_bslice ak_call ak_store ak_app iw_mm iw_eqn iw_idxp ef_callg cgK_some gv_e gv_own gv_i gv_sl gv_st gv_b gv_nil gvK_some gvO_some iw_callg ia_callg ak_callg hk_callg is_mv is_newnil is_pick is_bin is_eqb is_eqs is_un is_len is_lens is_chk is_fld is_fldv is_idxa is_idx is_load is_slice is_slices is_make is_alloc is_box is_build is_bslice is_app is_conv is_ext is_call is_calld is_callg is_mkfn is_mm is_idxp is_eqn is_store rt_nil rt_gen rt_gate nxT_some nxT_none ef_eqn_nil ef_eqn_sl ef_eqn_own ia_eqn ef_mmx ef_mmn ef_idxp nxD_some nxD_none ov_i ov_y ov_b ov_s ov_st ov_sl ov_own ov_oad ov_adr ov_nil ov_np ov_und ov_dead ov_tup oldN_some oldN_nil oldN_none so_none so_i so_y so_b so_s so_st so_sl so_adr so_nil so_np so_und so_dead anyM_nil anyM_t anyM_c so_own so_oad rd_nil rd_gen rd_mv rd_gate iw_mv iw_newnil iw_pick iw_bin iw_eqb iw_eqs iw_un iw_len iw_lens iw_chk iw_fld iw_fldv iw_idxa iw_idx iw_load iw_store iw_slice iw_slices iw_make iw_alloc iw_box iw_build iw_bslice iw_app iw_b2i iw_i2b iw_i2i iw_same iw_b2s iw_s2b iw_ext iw_call nm_i nm_y nm_b nm_s nm_st nm_sl nm_own nm_oad nm_adr nm_nil nm_np nm_und nm_dead nm_tup rl_nil rl_gate rl_mv rl_gen opv_t opv_c nx_some nx_none gate_tt gate_tf gate_ft gate_ff gate_u fr_ap em_nil em_i em_y em_b em_s em_st em_sl em_own em_adr em_oad em_ref em_nl em_np em_und em_dead em_tup0 em_tup_i em_tup_b em_tup_s em_tup_sl em_tup_st em_tup_np em_tup_own em_tup_oad mm_i mm_y mm_b mm_s mm_st mm_sl mm_own mm_oad mm_adr mm_nil mm_np mm_und mm_dead ef_mv ef_newnil ef_pickt ef_pickf ef_bin ef_eqb ef_eqs ef_un ef_lens ef_len_sl ef_len_own ef_len_nil ef_chk_adr ef_chk_oad ef_fld_adr ef_fld_oad ef_fldv idxR_some ef_idxa_sl ef_idxa_own ef_idx ef_load_adr_st ef_load_adr_i ef_load_adr_y ef_load_adr_b ef_load_adr_s ef_load_adr_sl atN_nil atN_zero atN_succ ef_load_oad ef_store ef_slice ef_slices ef_make ef_alloc ef_box ef_build ef_bslice ef_app_own ef_app_nil ef_b2i ef_i2b ef_i2i ef_same ef_ext ret1 ret2_some calL_some ef_call retC_i retC_y retC_b retC_s retC_st retC_sl retC_np retC_fr retC_ref retC_tup rk_nil rk_i rk_y rk_b rk_s rk_st rk_sl rk_own rk_oad rk_nl ok_nil ok_i ok_y ok_b ok_s ok_st ok_sl ok_own ok_oad ok_nl lo_nil lo_i lo_y lo_b lo_s lo_st lo_sl lo_own lo_oad lo_nl pr_nil pr_i pr_y pr_b pr_s pr_st pr_sl pr_own pr_nl pr_oad nr_i nr_y nr_b nr_s nr_st nr_sl nr_fr nr_np nr_tup ng_i ng_b ng_s ng_fr ng_nil resV effP_eff binD bi_add bi_sub bi_mul bi_quo bi_rem bi_eql bi_neq bi_lss bi_leq bi_gtr bi_geq bi_shl bi_shr bi_and bi_or bi_xor bi_andNot binY binS unD look put putD LS.get LS.drop killE sweep lookO putO dropO enter leave giveBackL giveBack outs lendArgs lendArg newOuts takeIn takeInL lendL DV.lend adoptL DV.adopt elems apartKs part DV.cells unpart settle settleL over mkId szId fillP fillE tk_e2 tk_i tk_y lt_e2 lt_i lt_y lend_rep al_e2 al_is al_ys al_rep al_app lend_app adopt_app new_app lend_e2 lend_i lend_y adopt_e2 adopt_i adopt_y new_e2 new_i allNewL DV.allNew bounds sliceD sliceS em_w em_q em_r em_fn em_tup_w em_tup_q em_tup_r mm_w mm_q mm_r mm_fn ef_load_adr_w ef_load_adr_q ef_load_adr_r retC_w retC_q retC_r rk_w rk_q rk_r rk_fn ok_w ok_q ok_r ok_fn lo_w lo_q lo_r lo_fn pr_w pr_q pr_r pr_fn nr_w nr_q nr_r ng_w ng_q ng_r oa_w oa_q oa_r oa_fn al_w al_q al_r al_fn ov_w ov_q ov_r ov_fn so_w so_q so_r so_fn il_w il_q il_r il_fn oi_w oi_q oi_r oi_fn av_w av_q av_r av_fn nm_w nm_q nm_r nm_fn ef_i2r ef_r2s ef_mkfn ef_idxp_adr ef_calld capsOk DV.cell List.all_cons List.all_nil rk_own_t lo_own_t lk_f lk_t pr_own_t mutB ak_calld hk_calld iw_calld iw_mkfn iw_i2r iw_r2s bw_and bw_or bw_xor bw_andNot bw_eql bw_neq sw_shl sw_shr sq_shl gEnv_nil rk_adr ok_adr lo_adr pr_adr oa_adr capL capArg DV.cap ak_mkfn hk_mkfn ef_callm gf_ap ga_nil ga_cons tgv_own gk_e gk_giv gk_i gk_y gk_b gk_s gk_w gk_q gk_r gk_fn gk_st gk_sl gk_own gk_oad gk_adr gk_nl gk_np rk_giv ok_giv lo_giv pr_giv oa_giv iw_callm hk_callm ak_callm is_callm ia_callm tg_callm md_callm ef_i2q ef_q2i ef_q2q iw_i2q iw_q2i iw_q2q ia_i2q ia_q2i ia_q2q bq_and bq_add bq_shr sq_shr tgv_nil gk_ref rk_ref ok_ref lo_ref pr_ref oa_ref retC_fn nr_fn ef_load_adr_fn ks_close cls_oad
attribute [local congr] ifP_congr nxP_congr nxR_congr nxT_congr nxG_congr nxF_congr ghK_congr gate_congr nx_congr nxD_congr runL_congr runD_congr eff_congr calL_congr ret2_congr seqK_congr regK_congr condK_congr endK_congr drK_congr nxW_congr
attribute [local simp ↓] nxT_some rt_nil rt_gen rt_gate nxP_some rq_nil rq_gen rq_gate nxR_some ru_nil ru_gen ru_gate nxG_some rg_nil rg_gen rg_gate nxF_some rf_nil rf_gen rf_gate ks_promote ks_freeze frz_own ks_rename ghK_some gate_tt gate_tf gate_ft gate_ff gate_u nx_some nxD_some rl_nil rl_mv rl_gen rl_gate rd_nil rd_mv rd_gen rd_gate rd_free rr_false rr_true drK_some drK_none nxW_some rw_nil rw_gen rw_gate ks_region ks_seq ks_cond ks_block seqK_n seqK_e seqK_r regK_some condK_t condK_f blkK_n blkK_r endK_n endK_r calL_some ret2_some opv_t opv_c
section
attribute [-simp] DV.cells
attribute [local simp] cells_st cells_sl cells_i cells_y cells_b cells_s cells_w
def sel (P : Nat → Bool) (n : Nat) : List Int := ((List.range n).filter P).map fun (k : Nat) => (k : Int)
theorem sel_succ (P : Nat → Bool) (n : Nat) : sel P (n + 1) = sel P n ++ if P n then [(n : Int)] else [] := by
  unfold sel
  rw [List.range_succ, List.filter_append, List.map_append]
  cases h : P n <;> simp [h]
theorem sel_len (P : Nat → Bool) (n : Nat) : (sel P n).length ≤ n := by
  unfold sel
  rw [List.length_map]
  exact Nat.le_trans (List.length_filter_le _ _) (by simp)
def lpP (m : Int) (ts : List T) (s o : Nat) : Bool := prf m ts s o && allTo (fun k => !o.testBit k || !prf m ts s (o - 2 ^ k)) m.toNat
def lpOf (m : Int) (ts : List T) (s : Int) : List Int := if tmOk m ts && stOk m s then sel (lpP m ts s.toNat) (2 ^ m.toNat) else []
theorem anot_fin : ∀ (o : Fin 32) (k : Fin 5), o.val.testBit k.val = true → andNotI (o.val : Int) ((2 : Int) ^ k.val) = ((o.val - 2 ^ k.val : Nat) : Int) ∧ (o.val : Int) - 2 ^ k.val = ((o.val - 2 ^ k.val : Nat) : Int) := by decide +kernel
theorem anot_nat {o k : Nat} (ho : o < 32) (hk : k < 5) (h : o.testBit k = true) : andNotI (o : Int) ((2 : Int) ^ k) = ((o - 2 ^ k : Nat) : Int) ∧ (o : Int) - 2 ^ k = ((o - 2 ^ k : Nat) : Int) := anot_fin ⟨o, ho⟩ ⟨k, hk⟩ h
set_option maxHeartbeats 4000000 in
theorem c_impl_isLeastProof {m : Int} {ts : List T} {s : Int} (h1 : tmOk m ts = true) (h2 : stOk m s = true) (o : Nat) (ho : o < 2 ^ m.toNat) : call lf n_impl_isLeastProof [.i m, .sl 0 (ts.map e2), .i s, .i o] = some (.b (lpP m ts s.toNat o), []) := by
  rw [call_k lf n_impl_isLeastProof _ (F := F_impl_isLeastProof) rfl rfl]
  obtain ⟨h3, h4, _⟩ := tmOk_iff.1 h1
  obtain ⟨p1, p2, p3⟩ := pow5 h3.1 h3.2
  have pf : ∀ o : Nat, o < 2 ^ m.toNat → call lf n_impl_ProofOk [.i m, .sl 0 (ts.map e2), .i s, .i o] = some (.b (prf m ts s.toNat o), []) := fun o ho => by
    have C := c_impl_ProofOk m ts s o (by omega)
    have so : stOk m o = true := stOk_iff.2 ⟨h3, by omega, by omega⟩
    have e : pfOf m ts s o = prf m ts s.toNat o := by unfold pfOf; rw [h1, h2, so]; rfl
    rw [e] at C
    exact C
  have C := pf o ho
  unfold lpP
  cases hp : prf m ts s.toNat o with
  | false => rw [hp] at C; simp [F_impl_isLeastProof, C]
  | true =>
    rw [hp] at C
    have L := loop_all (lf := lf) (L := F_impl_isLeastProof_L0) m.toNat (fun i => ⟨[(0, .i m), (1, .sl 0 (ts.map e2)), (2, .i s), (3, .i o), (16, .i m), (17, .i i)], []⟩) (fun k => !o.testBit k || !prf m ts s.toNat (o - 2 ^ k)) (x := .exit 0) (R := ⟨[(0, .i m), (1, .sl 0 (ts.map e2)), (2, .i s), (3, .i o), (16, .i m), (17, .i m)], []⟩) (Q := ⟨[(8, .b false)], []⟩) (fun i hi => by
      have hi' : (i : Int) < m := by omega
      have H := c_impl_hasTest o i (by omega)
      have w1 : wr ((i : Int) + 1) = i + 1 := wr_id (by omega) (by omega)
      cases hb : o.testBit i with
      | false =>
        rw [hb] at H
        simp [F_impl_isLeastProof_L0, hi', H, w1]
      | true =>
        rw [hb] at H
        have sh := shl1 (k := (i : Int)) (by omega) (by omega)
        rw [Int.toNat_natCast] at sh
        have n2 : ¬ ((i : Int) < 0) := by omega
        obtain ⟨a1, _⟩ := anot_nat (o := o) (k := i) (by omega) (by omega) hb
        have P := pf (o - 2 ^ i) (Nat.lt_of_le_of_lt (Nat.sub_le _ _) ho)
        generalize o - 2 ^ i = y at *
        generalize (2 : Int) ^ i = z at *
        cases hq : prf m ts s.toNat y with
        | false => rw [hq] at P; simp [F_impl_isLeastProof_L0, hi', H, w1, sh, n2, a1, P]
        | true => rw [hq] at P; simp [F_impl_isLeastProof_L0, hi', H, w1, sh, n2, a1, P]) (by
      have mx : max m 0 = m := by omega
      simp [F_impl_isLeastProof_L0, mx]) (by simp)
    have L' : ex lf F_impl_isLeastProof_W0 ⟨[(0, .i m), (1, .sl 0 (ts.map e2)), (2, .i s), (3, .i o), (16, .i m), (17, .i 0)], []⟩ = if allTo (fun k => !o.testBit k || !prf m ts s.toNat (o - 2 ^ k)) m.toNat = true then some (.exit 0, ⟨[(0, .i m), (1, .sl 0 (ts.map e2)), (2, .i s), (3, .i o), (16, .i m), (17, .i m)], []⟩) else some (.ret, ⟨[(8, .b false)], []⟩) := L
    cases ha : allTo (fun k => !o.testBit k || !prf m ts s.toNat (o - 2 ^ k)) m.toNat with
    | false => rw [ha] at L'; simp at L'; simp [F_impl_isLeastProof, C, L']
    | true => rw [ha] at L'; simp at L'; simp [F_impl_isLeastProof, C, L']
theorem c_impl_LeastProofs_1 {m : Int} {ts : List T} {s : Int} (h1 : tmOk m ts = true) (h2 : stOk m s = true) (o : Nat) (ho : o < 2 ^ m.toNat) : call lf n_impl_LeastProofs_1 [.i o, .adr (.i m), .adr (.sl 0 (ts.map e2)), .adr (.i s)] = some (.b (lpP m ts s.toNat o), []) := by
  rw [call_k lf n_impl_LeastProofs_1 _ (F := F_impl_LeastProofs_1) rfl rfl]
  have C := c_impl_isLeastProof h1 h2 o ho
  simp [F_impl_LeastProofs_1, C]
set_option maxHeartbeats 4000000 in
theorem c_impl_setsWhere {m : Int} (h1 : 1 ≤ m) (h5 : m ≤ 5) (f : Nat) (ts : List T) (s : Int) (P : Nat → Bool) (h : ∀ i : Nat, i < 2 ^ m.toNat → call lf f [.i i, .adr (.i m), .adr (.sl 0 (ts.map e2)), .adr (.i s)] = some (.b (P i), [])) :
    call lf n_impl_setsWhere [.i m, .fn f [.adr (.i m), .adr (.sl 0 (ts.map e2)), .adr (.i s)]] = some (.fr 1 ((sel P (2 ^ m.toNat)).map .i), []) := by
  obtain ⟨p1, p2, p3⟩ := pow5 h1 h5
  have C4 := c_impl_statesOf m (by omega) (by omega)
  have L := loop_count (lf := lf) (L := F_impl_setsWhere_L0) (2 ^ m.toNat) (fun i => ⟨[(1, .fn f [.adr (.i m), .adr (.sl 0 (ts.map e2)), .adr (.i s)]), (5, .own 2568 (sel P i).length 0 (sel P i).length), (8, .i (2 ^ m.toNat)), (9, .i i)], [(2568, (sel P i).map .i)]⟩) (x := .exit 0) (R := ⟨[(1, .fn f [.adr (.i m), .adr (.sl 0 (ts.map e2)), .adr (.i s)]), (5, .own 2568 (sel P (2 ^ m.toNat)).length 0 (sel P (2 ^ m.toNat)).length), (8, .i (2 ^ m.toNat)), (9, .i (2 ^ m.toNat))], [(2568, (sel P (2 ^ m.toNat)).map .i)]⟩) (fun i hi => by
    have hi' : (i : Int) < 2 ^ m.toNat := by omega
    have C := h i hi
    have w1 : wr ((i : Int) + 1) = i + 1 := wr_id (by omega) (by omega)
    have e := sel_succ P i
    have ll := sel_len P i
    have lb : (sel P i).length + 1 ≤ bound := by unfold bound; omega
    simp only [e]
    generalize sel P i = q at *
    cases hp : P i with
    | false =>
      rw [hp] at C
      simp [F_impl_setsWhere_L0, hi', C, w1]
    | true =>
      rw [hp] at C
      simp [F_impl_setsWhere_L0, hi', C, w1, lb]) (by
    simp [F_impl_setsWhere_L0]) (by simp)
  have L' : ex lf F_impl_setsWhere_W0 ⟨[(1, .fn f [.adr (.i m), .adr (.sl 0 (ts.map e2)), .adr (.i s)]), (5, .own 2568 0 0 0), (8, .i (2 ^ m.toNat)), (9, .i 0)], [(2568, [])]⟩ = some (.exit 0, ⟨[(1, .fn f [.adr (.i m), .adr (.sl 0 (ts.map e2)), .adr (.i s)]), (5, .own 2568 (sel P (2 ^ m.toNat)).length 0 (sel P (2 ^ m.toNat)).length), (8, .i (2 ^ m.toNat)), (9, .i (2 ^ m.toNat))], [(2568, (sel P (2 ^ m.toNat)).map .i)]⟩) := L
  rw [call_k lf n_impl_setsWhere _ (F := F_impl_setsWhere) rfl rfl]
  simp [F_impl_setsWhere, C4, L']
end
section
attribute [-simp] DV.cells
attribute [local simp] cells_st cells_sl cells_i cells_y cells_b cells_s cells_w
set_option maxHeartbeats 4000000 in
theorem c_impl_LeastProofs (m : Int) (ts : List T) (s : Int) (hb : (ts.length : Int) < 1099511627776) : call lf n_impl_LeastProofs [.i m, .sl 0 (ts.map e2), .i s] = some (.fr 1 ((lpOf m ts s).map .i), []) := by
  rw [call_k lf n_impl_LeastProofs _ (F := F_impl_LeastProofs) rfl rfl]
  have C1 := c_impl_TermOk m ts hb
  have C2 := c_impl_StateOk m s
  unfold lpOf
  cases h1 : tmOk m ts with
  | false => rw [h1] at C1; simp [F_impl_LeastProofs, C1]
  | true =>
    rw [h1] at C1
    cases h2 : stOk m s with
    | false => rw [h2] at C2; simp [F_impl_LeastProofs, C1, C2]
    | true =>
      rw [h2] at C2
      obtain ⟨h3, _, _⟩ := tmOk_iff.1 h1
      have C4 := c_impl_setsWhere h3.1 h3.2 n_impl_LeastProofs_1 ts s (lpP m ts s.toNat) (fun i hi => c_impl_LeastProofs_1 h1 h2 i hi)
      have ll := sel_len (lpP m ts s.toNat) (2 ^ m.toNat)
      obtain ⟨p1, p2, p3⟩ := pow5 h3.1 h3.2
      have lb : (sel (lpP m ts s.toNat) (2 ^ m.toNat)).length ≤ bound := by unfold bound; omega
      simp [F_impl_LeastProofs, C1, C2, C4, lb]
def stLp (m s : Int) (out : List Int) (tab o : Nat) (b : Bool) (k : Int) : LS := ⟨[(0, .i m), (2, .i s), (7, .own 6152 out.length 0 out.length), (8, .i tab), (9, .i o), (10, .b b), (11, .i k)], [(6152, out.map .i)]⟩
def lpF (m : Int) (ts : List T) (s o k : Nat) : Bool := !o.testBit k || !prf m ts s (o - 2 ^ k)
set_option maxHeartbeats 4000000 in
theorem lp_step {m : Int} {ts : List T} {s : Nat} (h1 : tmOk m ts = true) (o : Nat) (ho : o < 2 ^ m.toNat) (out : List Int) (i : Nat) (hi : (i : Int) < m) : ex lf F_spec_LeastProofs_L1 (stLp m s out (tabT m ts) o true i) = some (.normal, stLp m s out (tabT m ts) o (lpF m ts s o i) (i + 1 : Nat)) := by
  obtain ⟨h3, h4, _⟩ := tmOk_iff.1 h1
  obtain ⟨p1, p2, p3⟩ := pow5 h3.1 h3.2
  have bb := bit_bI (a := o) (s := i) (by omega)
  have n2 : ¬ ((i : Int) < 0) := by omega
  have w1 : wr ((i : Int) + 1) = ((i + 1 : Nat) : Int) := by rw [wr_id (by omega) (by omega)]; omega
  unfold stLp lpF
  cases hb : o.testBit i with
  | false =>
    rw [hb] at bb
    have q : (bI false == 0) = true := rfl
    simp [F_spec_LeastProofs_L1, hi, n2, w1, bb, q]
  | true =>
    rw [hb] at bb
    have q : (bI true == 0) = false := rfl
    have sh := shl1 (k := (i : Int)) (by omega) (by omega)
    rw [Int.toNat_natCast] at sh
    obtain ⟨_, a2⟩ := anot_nat (o := o) (k := i) (by omega) (by omega) hb
    have C5 := c_spec_l3Told (m := m) (by omega) h3.2 s (o - 2 ^ i)
    have tl := told_len m.toNat s (o - 2 ^ i)
    have C6 := c_spec_l3Forced h3.1 h3.2 (told m.toNat s (o - 2 ^ i)) (by rw [tl]; omega) (tabT m ts) (ks_some (told_ok h3.1 h3.2 _ _))
    rw [foT_tab h3.1 h3.2] at C6
    have t1 : List.take m.toNat ((told m.toNat s (o - 2 ^ i)).map DV.i) = (told m.toNat s (o - 2 ^ i)).map .i := List.take_of_length_le (by simp [tl])
    have w2 : wr ((o - 2 ^ i : Nat) : Int) = ((o - 2 ^ i : Nat) : Int) := wr_id (by omega) (by have : o - 2 ^ i ≤ o := Nat.sub_le _ _
                                                                                               omega)
    have pe : (!prf m ts s (o - 2 ^ i)) = (foT m ts (told m.toNat s (o - 2 ^ i)) == -1) := by unfold prf; simp [bne]
    rw [pe]
    generalize foT m ts (told m.toNat s (o - 2 ^ i)) = y at *
    generalize told m.toNat s (o - 2 ^ i) = z at *
    generalize o - 2 ^ i = x at *
    generalize (2 : Int) ^ i = v at *
    simp [F_spec_LeastProofs_L1, hi, n2, w1, bb, q, sh, a2, w2, C5, C6, tl, t1]
theorem lp_inner {m : Int} {ts : List T} {s : Nat} (h1 : tmOk m ts = true) (o : Nat) (ho : o < 2 ^ m.toNat) (out : List Int) (j : Nat) : ∀ i : Nat, i + j = m.toNat → (∀ k, k < i → lpF m ts s o k = true) →
    ∃ k, ex lf F_spec_LeastProofs_W1 (stLp m s out (tabT m ts) o true i) = some (.exit 2, stLp m s out (tabT m ts) o (allTo (lpF m ts s o) m.toNat) k) := by
  obtain ⟨h3, h4, _⟩ := tmOk_iff.1 h1
  induction j with
  | zero =>
    intro i hi hk
    have e : allTo (lpF m ts s o) m.toNat = true := allTo_iff.2 fun k hk' => hk k (by omega)
    have hm : (i : Int) = m := by omega
    refine ⟨i, ?_⟩
    rw [w_spec_LeastProofs_1, e, hm]
    unfold stLp
    simp [F_spec_LeastProofs_L1]
  | succ j ih =>
    intro i hi hk
    have hi' : (i : Int) < m := by omega
    have S := lp_step (s := s) h1 o ho out i hi'
    rw [w_spec_LeastProofs_1, S]
    cases hf : lpF m ts s o i with
    | true =>
      exact ih (i + 1) (by omega) fun k hk' => by
        rcases Nat.lt_succ_iff_lt_or_eq.1 hk' with q | rfl
        · exact hk k q
        · exact hf
    | false =>
      have e : allTo (lpF m ts s o) m.toNat = false := by
        cases h : allTo (lpF m ts s o) m.toNat with
        | false => rfl
        | true => have := allTo_iff.1 h i (by omega); rw [hf] at this; cases this
      rw [e]
      refine ⟨(i + 1 : Nat), ?_⟩
      show ex lf F_spec_LeastProofs_W1 (stLp m s out (tabT m ts) o false (i + 1 : Nat)) = _
      rw [w_spec_LeastProofs_1]
      unfold stLp
      by_cases hlt : ((i : Int) + 1) < m
      · simp [F_spec_LeastProofs_L1, hlt]
      · simp [F_spec_LeastProofs_L1, hlt]
theorem lp_inner0 {m : Int} {s : Nat} (h0 : 0 < m) (tab o : Nat) (out : List Int) : ex lf F_spec_LeastProofs_W1 (stLp m s out tab o false 0) = some (.exit 2, stLp m s out tab o false 0) := by
  rw [w_spec_LeastProofs_1]
  unfold stLp
  simp [F_spec_LeastProofs_L1, h0]
theorem lpP_eq (m : Int) (ts : List T) (s o : Nat) : lpP m ts s o = (prf m ts s o && allTo (lpF m ts s o) m.toNat) := rfl
set_option maxHeartbeats 4000000 in
theorem lp_outer {m : Int} {ts : List T} {s : Nat} (h1 : tmOk m ts = true) (o : Nat) (ho : o < 2 ^ m.toNat) (out : List Int) (hl : out.length ≤ o) :
    ex lf F_spec_LeastProofs_L0 ⟨[(0, .i m), (2, .i s), (7, .own 6152 out.length 0 out.length), (8, .i (tabT m ts)), (9, .i o)], [(6152, out.map .i)]⟩ =
    some (.normal, ⟨[(0, .i m), (2, .i s), (7, .own 6152 (out ++ if lpP m ts s o then [(o : Int)] else []).length 0 (out ++ if lpP m ts s o then [(o : Int)] else []).length), (8, .i (tabT m ts)), (9, .i (o + 1 : Nat))], [(6152, (out ++ if lpP m ts s o then [(o : Int)] else []).map .i)]⟩) := by
  obtain ⟨h3, h4, _⟩ := tmOk_iff.1 h1
  obtain ⟨p1, p2, p3⟩ := pow5 h3.1 h3.2
  have ho' : (o : Int) < 2 ^ m.toNat := by omega
  have shm := shl1 (k := m) (by omega) (by omega)
  have nm : ¬ m < 0 := by omega
  have w1 : wr ((o : Int) + 1) = o + 1 := wr_id (by omega) (by omega)
  have C5 := c_spec_l3Told (m := m) (by omega) h3.2 s o
  have tl := told_len m.toNat s o
  have C6 := c_spec_l3Forced h3.1 h3.2 (told m.toNat s o) (by rw [tl]; omega) (tabT m ts) (ks_some (told_ok h3.1 h3.2 _ _))
  rw [foT_tab h3.1 h3.2] at C6
  have t1 : List.take m.toNat ((told m.toNat s o).map DV.i) = (told m.toNat s o).map .i := List.take_of_length_le (by simp [tl])
  have pe : prf m ts s o = (foT m ts (told m.toNat s o) != -1) := rfl
  have lb : out.length + 1 ≤ bound := by unfold bound; omega
  have lb0 : out.length ≤ bound := by omega
  rw [lpP_eq]
  cases hp : prf m ts s o with
  | false =>
    rw [hp] at pe
    have I := lp_inner0 (m := m) (s := s) (by omega) (tabT m ts) o out
    unfold stLp at I
    generalize foT m ts (told m.toNat s o) = y at *
    generalize told m.toNat s o = z at *
    simp [F_spec_LeastProofs_L0, shm, nm, ho', w1, C5, C6, tl, t1, ← pe, I, lb0]
  | true =>
    rw [hp] at pe
    obtain ⟨k, I⟩ := lp_inner (s := s) h1 o ho out m.toNat 0 (by omega) (fun k hk => by omega)
    unfold stLp at I
    simp only [Int.natCast_zero] at I
    generalize foT m ts (told m.toNat s o) = y at *
    generalize told m.toNat s o = z at *
    cases ha : allTo (lpF m ts s o) m.toNat with
    | false => rw [ha] at I; simp [F_spec_LeastProofs_L0, shm, nm, ho', w1, C5, C6, tl, t1, ← pe, I, lb0]
    | true => rw [ha] at I; simp [F_spec_LeastProofs_L0, shm, nm, ho', w1, C5, C6, tl, t1, ← pe, I, lb, lb0]
set_option maxHeartbeats 4000000 in
theorem c_spec_LeastProofs (m : Int) (ts : List T) (s : Int) (hb : (ts.length : Int) < 1099511627776) : call lf n_spec_LeastProofs [.i m, .sl 0 (ts.map e2), .i s] = some (.fr 1 ((lpOf m ts s).map .i), []) := by
  rw [call_k lf n_spec_LeastProofs _ (F := F_spec_LeastProofs) rfl rfl]
  have C1 := c_spec_TermOk m ts hb
  have C2 := c_spec_StateOk m s
  unfold lpOf
  cases h1 : tmOk m ts with
  | false => rw [h1] at C1; simp [F_spec_LeastProofs, C1]
  | true =>
    rw [h1] at C1
    cases h2 : stOk m s with
    | false => rw [h2] at C2; simp [F_spec_LeastProofs, C1, C2]
    | true =>
      rw [h2] at C2
      obtain ⟨s0, s1⟩ := st32 h2
      obtain ⟨h3, h4, _⟩ := tmOk_iff.1 h1
      obtain ⟨p1, p2, p3⟩ := pow5 h3.1 h3.2
      obtain ⟨n, rfl⟩ := Int.eq_ofNat_of_zero_le s0
      simp only [Int.toNat_natCast]
      have C3 := c_spec_l3Table h1
      have shm := shl1 (k := m) (by omega) (by omega)
      have nm : ¬ m < 0 := by omega
      have L := loop_count (lf := lf) (L := F_spec_LeastProofs_L0) (2 ^ m.toNat) (fun i => ⟨[(0, .i m), (2, .i n), (7, .own 6152 (sel (lpP m ts n) i).length 0 (sel (lpP m ts n) i).length), (8, .i (tabT m ts)), (9, .i i)], [(6152, (sel (lpP m ts n) i).map .i)]⟩) (x := .exit 0) (R := ⟨[(0, .i m), (2, .i n), (7, .own 6152 (sel (lpP m ts n) (2 ^ m.toNat)).length 0 (sel (lpP m ts n) (2 ^ m.toNat)).length), (8, .i (tabT m ts)), (9, .i (2 ^ m.toNat))], [(6152, (sel (lpP m ts n) (2 ^ m.toNat)).map .i)]⟩) (fun i hi => by
        have := lp_outer (s := n) h1 i hi (sel (lpP m ts n) i) (sel_len _ _)
        rw [← sel_succ] at this
        exact this) (by
        simp [F_spec_LeastProofs_L0, shm, nm]) (by simp)
      have L' : ex lf F_spec_LeastProofs_W0 ⟨[(0, .i m), (2, .i n), (7, .own 6152 0 0 0), (8, .i (tabT m ts)), (9, .i 0)], [(6152, [])]⟩ = some (.exit 0, ⟨[(0, .i m), (2, .i n), (7, .own 6152 (sel (lpP m ts n) (2 ^ m.toNat)).length 0 (sel (lpP m ts n) (2 ^ m.toNat)).length), (8, .i (tabT m ts)), (9, .i (2 ^ m.toNat))], [(6152, (sel (lpP m ts n) (2 ^ m.toNat)).map .i)]⟩) := L
      have ll := sel_len (lpP m ts n) (2 ^ m.toNat)
      have lb : (sel (lpP m ts n) (2 ^ m.toNat)).length ≤ bound := by unfold bound; omega
      simp [F_spec_LeastProofs, C1, C2, C3, L', lb]
end
section
theorem andn_fin : ∀ a b : Fin 32, andNotI (a.val : Int) (b.val : Int) = ((a.val &&& (31 ^^^ b.val) : Nat) : Int) := by decide +kernel
theorem andn_nat {a b : Nat} (ha : a < 32) (hb : b < 32) : andNotI (a : Int) (b : Int) = ((a &&& (31 ^^^ b) : Nat) : Int) := andn_fin ⟨a, ha⟩ ⟨b, hb⟩
end
section
theorem sub_fin : ∀ (o : Fin 32) (k a : Fin 5), o.val.testBit k.val = true → (o.val - 2 ^ k.val).testBit a.val = (o.val.testBit a.val && a.val != k.val) := by decide +kernel
theorem sub_bit {o k a : Nat} (ho : o < 32) (hk : k < 5) (ha : a < 5) (h : o.testBit k = true) : (o - 2 ^ k).testBit a = (o.testBit a && a != k) := sub_fin ⟨o, ho⟩ ⟨k, hk⟩ ⟨a, ha⟩ h
theorem and_fin : ∀ a b : Fin 32, andI (a.val : Int) (b.val : Int) = ((a.val &&& b.val : Nat) : Int) := by decide +kernel
theorem and_nat {a b : Nat} (ha : a < 32) (hb : b < 32) : andI (a : Int) (b : Int) = ((a &&& b : Nat) : Int) := and_fin ⟨a, ha⟩ ⟨b, hb⟩
theorem lpP_iff {m : Int} {ts : List T} {s o : Nat} : lpP m ts s o = true ↔ prf m ts s o = true ∧ ∀ k, k < m.toNat → o.testBit k = true → prf m ts s (o - 2 ^ k) = false := by
  unfold lpP
  rw [Bool.and_eq_true, allTo_iff]
  constructor
  · rintro ⟨h1, h2⟩
    refine ⟨h1, fun k hk hb => ?_⟩
    have := h2 k hk
    simpa [hb] using this
  · rintro ⟨h1, h2⟩
    refine ⟨h1, fun k hk => ?_⟩
    cases hb : o.testBit k with
    | false => rfl
    | true => simp [h2 k hk hb]
theorem lp_below {m : Int} (h1 : 1 ≤ m) (h5 : m ≤ 5) {ts : List T} {s : Nat} (hs : s < 2 ^ m.toNat) : ∀ (n o : Nat), o < n → o < 2 ^ m.toNat → prf m ts s o = true → ∃ o', o' < 2 ^ m.toNat ∧ lpP m ts s o' = true ∧ ∀ a, a < m.toNat → o'.testBit a = true → o.testBit a = true := by
  obtain ⟨p1, p2, p3⟩ := pow5 h1 h5
  intro n
  induction n with
  | zero => intro o ho; omega
  | succ n ih =>
    intro o ho hlt hp
    cases hl : lpP m ts s o with
    | true => exact ⟨o, hlt, hl, fun a _ h => h⟩
    | false =>
      obtain ⟨k, hk, hb, hq⟩ : ∃ k, k < m.toNat ∧ o.testBit k = true ∧ prf m ts s (o - 2 ^ k) = true := by
        apply Classical.byContradiction
        intro hn
        have : lpP m ts s o = true := lpP_iff.2 ⟨hp, fun k hk hb => by
          cases hq : prf m ts s (o - 2 ^ k) with
          | false => rfl
          | true => exact absurd ⟨k, hk, hb, hq⟩ hn⟩
        rw [hl] at this; cases this
      have h2k : 2 ^ k ≤ o := Nat.ge_two_pow_of_testBit hb
      have h2p : 0 < 2 ^ k := Nat.two_pow_pos k
      obtain ⟨o', q1, q2, q3⟩ := ih (o - 2 ^ k) (by omega) (by omega) hq
      refine ⟨o', q1, q2, fun a ha h => ?_⟩
      have := q3 a ha h
      rw [sub_bit (by omega) (by omega) (by omega) hb] at this
      simp at this
      exact this.1
theorem xor_lt {m : Int} {s k : Nat} (hs : s < 2 ^ m.toNat) (hk : k < m.toNat) : s ^^^ 2 ^ k < 2 ^ m.toNat := Nat.xor_lt_two_pow hs (Nat.pow_lt_pow_right (by omega) hk)
theorem turn_in {m : Int} {ts : List T} {s o k : Nat} (hs : s < 2 ^ m.toNat) (hk : k < m.toNat) (ht : tuP ts s k = true) (hp : prf m ts s o = true) : o.testBit k = true := by
  cases hb : o.testBit k with
  | true => rfl
  | false =>
    rw [prf_iff hs] at hp
    have := hp (s ^^^ 2 ^ k) (xor_lt hs hk) fun a ha h => by
      rw [Nat.testBit_xor, Nat.testBit_two_pow]
      have : k ≠ a := fun e => by rw [e, h] at hb; cases hb
      simp [this]
    unfold tuP at ht
    rw [this] at ht
    simp at ht
theorem turn_out {m : Int} (h1 : 1 ≤ m) (h5 : m ≤ 5) {ts : List T} {s k : Nat} (hs : s < 2 ^ m.toNat) (hk : k < m.toNat) (ht : tuP ts s k = false) : ∃ o, o < 2 ^ m.toNat ∧ lpP m ts s o = true ∧ o.testBit k = false := by
  obtain ⟨p1, p2, p3⟩ := pow5 h1 h5
  have hal : (2 ^ m.toNat - 1).testBit k = true := by rw [Nat.testBit_two_pow_sub_one]; simpa using hk
  have hbit : ∀ a, a < m.toNat → (2 ^ m.toNat - 1 - 2 ^ k).testBit a = (a != k) := fun a ha => by
    rw [sub_bit (by omega) (by omega) (by omega) hal, Nat.testBit_two_pow_sub_one]
    simp [ha]
  have hp : prf m ts s (2 ^ m.toNat - 1 - 2 ^ k) = true := by
    rw [prf_iff hs]
    intro s' hs' hg
    have hg' : ∀ a, a < m.toNat → a ≠ k → s'.testBit a = s.testBit a := fun a ha hne => hg a ha (by rw [hbit a ha]; simpa using hne)
    by_cases hb : s'.testBit k = s.testBit k
    · rw [eq_of_low hs' hs fun a ha => by
        by_cases e : a = k
        · rw [e]; exact hb
        · exact hg' a ha e]
    · have e : s' = s ^^^ 2 ^ k := eq_of_low hs' (xor_lt hs hk) fun a ha => by
        rw [Nat.testBit_xor, Nat.testBit_two_pow]
        by_cases e : a = k
        · subst e
          cases h1 : s'.testBit a <;> cases h2 : s.testBit a <;> simp_all
        · have : k ≠ a := fun q => e q.symm
          simp [this, hg' a ha e]
      rw [e]
      unfold tuP at ht
      have q : tv ts s = tv ts (s ^^^ 2 ^ k) := by simpa using ht
      exact q.symm
  have hle : 2 ^ m.toNat - 1 - 2 ^ k < 2 ^ m.toNat := Nat.lt_of_le_of_lt (Nat.sub_le _ _) (by omega)
  obtain ⟨o, q1, q2, q3⟩ := lp_below h1 h5 hs (2 ^ m.toNat) _ hle hle hp
  refine ⟨o, q1, q2, ?_⟩
  cases hb : o.testBit k with
  | false => rfl
  | true => have := q3 k hk hb; rw [hbit k hk] at this; simp at this
theorem turn_idle {m : Int} {ts : List T} {s k : Nat} (hs : s < 2 ^ m.toNat) (hk : k < m.toNat) (hi : idP m ts k = true) : tuP ts s k = false := by
  rw [idP_iff] at hi
  unfold tuP
  cases hb : s.testBit k with
  | false =>
    have e : s ^^^ 2 ^ k = s ||| 2 ^ k := by
      apply Nat.eq_of_testBit_eq
      intro a
      rw [Nat.testBit_xor, Nat.testBit_or, Nat.testBit_two_pow]
      by_cases q : k = a
      · subst q; simp [hb]
      · simp [q]
    rw [e, ← hi s hs]; simp
  | true =>
    have e : (s ^^^ 2 ^ k) ||| 2 ^ k = s := by
      apply Nat.eq_of_testBit_eq
      intro a
      rw [Nat.testBit_or, Nat.testBit_xor, Nat.testBit_two_pow]
      by_cases q : k = a
      · subst q; simp [hb]
      · simp [q]
    have := hi _ (xor_lt hs hk)
    rw [e] at this
    rw [this]; simp
/-- the least proofs, as numbers -/
def lpN (m : Int) (ts : List T) (s : Nat) : List Nat := (List.range (2 ^ m.toNat)).filter (lpP m ts s)
theorem sel_lpN (m : Int) (ts : List T) (s : Nat) : sel (lpP m ts s) (2 ^ m.toNat) = (lpN m ts s).map fun (k : Nat) => (k : Int) := rfl
theorem mem_lpN {m : Int} {ts : List T} {s o : Nat} : o ∈ lpN m ts s ↔ o < 2 ^ m.toNat ∧ lpP m ts s o = true := by
  unfold lpN
  rw [List.mem_filter, List.mem_range]
theorem lpN_len (m : Int) (ts : List T) (s : Nat) : (lpN m ts s).length ≤ 2 ^ m.toNat := Nat.le_trans (List.length_filter_le _ _) (by simp)
def anN (l : List Nat) (x : Nat) : Nat := l.foldl (fun a b => a &&& b) x
theorem anN_le : ∀ (l : List Nat) (x : Nat), anN l x ≤ x
  | [], x => Nat.le_refl x
  | y :: l, x => Nat.le_trans (anN_le l (x &&& y)) Nat.and_le_left
theorem anN_bit : ∀ (l : List Nat) (x a : Nat), (anN l x).testBit a = (x.testBit a && l.all fun y => y.testBit a)
  | [], x, a => by simp [anN]
  | y :: l, x, a => by
    have := anN_bit l (x &&& y) a
    simp only [anN, List.foldl_cons, List.all_cons] at this ⊢
    rw [this, Nat.testBit_and, Bool.and_assoc]
theorem an_turn {m : Int} (h1 : 1 ≤ m) (h5 : m ≤ 5) {ts : List T} {s : Nat} (hs : s < 2 ^ m.toNat) : anN (lpN m ts s) (2 ^ m.toNat - 1) = tabN (tuP ts s) m.toNat := by
  obtain ⟨p1, p2, p3⟩ := pow5 h1 h5
  refine eq_of_low (Nat.lt_of_le_of_lt (anN_le _ _) (by omega)) (tabN_lt _ _) fun a ha => ?_
  rw [anN_bit, tabN_bit, Nat.testBit_two_pow_sub_one]
  cases ht : tuP ts s a with
  | true =>
    have : (lpN m ts s).all (fun y => y.testBit a) = true := List.all_eq_true.2 fun o ho => turn_in hs ha ht (lpP_iff.1 (mem_lpN.1 ho).2).1
    simp [ha, this]
  | false =>
    obtain ⟨o, q1, q2, q3⟩ := turn_out h1 h5 hs ha ht
    have : (lpN m ts s).all (fun y => y.testBit a) = false := by
      rw [List.all_eq_false]
      exact ⟨o, mem_lpN.2 ⟨q1, q2⟩, by simp [q3]⟩
    simp [this]
theorem turn_idle0 {m : Int} (h1 : 1 ≤ m) (h5 : m ≤ 5) {ts : List T} {s : Nat} (hs : s < 2 ^ m.toNat) : tabN (tuP ts s) m.toNat &&& tabN (idP m ts) m.toNat = 0 := by
  obtain ⟨p1, p2, p3⟩ := pow5 h1 h5
  have b1 := tabN_lt (tuP ts s) m.toNat
  refine eq_of_low (m := m.toNat) (Nat.lt_of_le_of_lt Nat.and_le_left b1) (by omega) fun a ha => ?_
  rw [Nat.testBit_and, tabN_bit, tabN_bit, Nat.zero_testBit]
  cases hi : idP m ts a with
  | false => simp
  | true => simp [turn_idle hs ha hi]
end
section
attribute [-simp] DV.cells
attribute [local simp] cells_st cells_sl cells_i cells_y cells_b cells_s
theorem lp_anti {m : Int} (h1 : 1 ≤ m) (h5 : m ≤ 5) {ts : List T} {s o p : Nat} (hs : s < 2 ^ m.toNat) (ho : o ∈ lpN m ts s) (hp : p ∈ lpN m ts s) (hne : o ≠ p) : o &&& p ≠ o := by
  intro e
  obtain ⟨p1, p2, p3⟩ := pow5 h1 h5
  obtain ⟨o1, o2⟩ := mem_lpN.1 ho
  obtain ⟨q1, q2⟩ := mem_lpN.1 hp
  have sub : ∀ a, o.testBit a = true → p.testBit a = true := fun a ha => by
    have := congrArg (fun n => n.testBit a) e
    simp only [Nat.testBit_and, ha, Bool.true_and] at this
    exact this
  obtain ⟨b, hb, hbp, hbo⟩ : ∃ b, b < m.toNat ∧ p.testBit b = true ∧ o.testBit b = false := by
    apply Classical.byContradiction
    intro hn
    apply hne
    refine eq_of_low o1 q1 fun a ha => ?_
    cases hpa : p.testBit a with
    | true =>
      cases hoa : o.testBit a with
      | true => rfl
      | false => exact absurd ⟨a, ha, hpa, hoa⟩ hn
    | false =>
      cases hoa : o.testBit a with
      | false => rfl
      | true => rw [sub a hoa] at hpa; cases hpa
  have := (lpP_iff.1 q2).2 b hb hbp
  rw [prf_mono hs (fun a ha h => by
    rw [sub_bit (by omega) (by omega) (by omega) hbp, sub a h]
    have : a ≠ b := fun e => by rw [e, hbo] at h; cases h
    simp [this]) (lpP_iff.1 o2).1] at this
  cases this
theorem idle_any {m : Int} {ts : List T} {a u v : Nat} (hu : u < 2 ^ m.toNat) (hv : v < 2 ^ m.toNat) (ha : a < m.toNat) (hi : idP m ts a = true) (h : ∀ b, b < m.toNat → b ≠ a → u.testBit b = v.testBit b) : tv ts u = tv ts v := by
  rw [idP_iff] at hi
  rw [hi u hu, hi v hv]
  congr 1
  have l := Nat.pow_lt_pow_right (a := 2) (by omega) ha
  refine eq_of_low (Nat.or_lt_two_pow hu l) (Nat.or_lt_two_pow hv l) fun b hb => ?_
  rw [Nat.testBit_or, Nat.testBit_or, Nat.testBit_two_pow]
  by_cases e : b = a
  · subst e; simp
  · rw [h b hb e]
theorem lp_idle {m : Int} (h1 : 1 ≤ m) (h5 : m ≤ 5) {ts : List T} {s o : Nat} (hs : s < 2 ^ m.toNat) (ho : o ∈ lpN m ts s) : o &&& tabN (idP m ts) m.toNat = 0 := by
  obtain ⟨p1, p2, p3⟩ := pow5 h1 h5
  obtain ⟨o1, o2⟩ := mem_lpN.1 ho
  refine eq_of_low (m := m.toNat) (Nat.lt_of_le_of_lt Nat.and_le_left o1) (by omega) fun a ha => ?_
  rw [Nat.testBit_and, tabN_bit, Nat.zero_testBit]
  cases hb : o.testBit a with
  | false => simp
  | true =>
    cases hi : idP m ts a with
    | false => simp
    | true =>
      exfalso
      have np := (lpP_iff.1 o2).2 a ha hb
      have : prf m ts s (o - 2 ^ a) = true := by
        rw [prf_iff hs]
        intro s' hs' hg
        have hw := tabN_lt (fun b => if b = a then s.testBit a else s'.testBit b) m.toNat
        have wb : ∀ b, b < m.toNat → (tabN (fun b => if b = a then s.testBit a else s'.testBit b) m.toNat).testBit b = if b = a then s.testBit a else s'.testBit b := fun b hb => by
          rw [tabN_bit]; simp [hb]
        rw [idle_any hs' hw ha hi fun b hb' hne => by rw [wb b hb', if_neg hne]]
        refine (prf_iff hs).1 (lpP_iff.1 o2).1 _ hw fun b hb' hob => ?_
        rw [wb b hb']
        by_cases e : b = a
        · rw [if_pos e, e]
        · rw [if_neg e]
          exact hg b hb' (by rw [sub_bit (by omega) (by omega) (by omega) hb, hob]; simp [e])
      rw [this] at np; cases np
theorem lp_meet {m : Int} (h1 : 1 ≤ m) (h5 : m ≤ 5) {ts : List T} {s o p : Nat} (hs : s < 2 ^ m.toNat) (ho : o ∈ lpN m ts s) (hp : p ∈ lpN m ts (opp m s)) (hne : tv ts s ≠ tv ts (opp m s)) : o &&& p ≠ 0 := by
  intro e
  apply hne
  obtain ⟨o1, o2⟩ := mem_lpN.1 ho
  obtain ⟨q1, q2⟩ := mem_lpN.1 hp
  have hw := tabN_lt (fun b => if o.testBit b then s.testBit b else (opp m s).testBit b) m.toNat
  have wb : ∀ b, b < m.toNat → (tabN (fun b => if o.testBit b then s.testBit b else (opp m s).testBit b) m.toNat).testBit b = if o.testBit b then s.testBit b else (opp m s).testBit b := fun b hb => by
    rw [tabN_bit]; simp [hb]
  rw [← (prf_iff hs).1 (lpP_iff.1 o2).1 _ hw fun b hb hob => by rw [wb b hb, hob]; simp]
  refine (prf_iff (opp_lt hs)).1 (lpP_iff.1 q2).1 _ hw fun b hb hpb => ?_
  have : o.testBit b = false := by
    have := congrArg (fun n => n.testBit b) e
    simp only [Nat.testBit_and, hpb, Bool.and_true, Nat.zero_testBit] at this
    exact this
  rw [wb b hb, this]; simp
theorem lp_some {m : Int} (h1 : 1 ≤ m) (h5 : m ≤ 5) {ts : List T} {s : Nat} (hs : s < 2 ^ m.toNat) : 0 < (lpN m ts s).length := by
  obtain ⟨p1, p2, p3⟩ := pow5 h1 h5
  obtain ⟨o, q1, q2, _⟩ := lp_below h1 h5 hs (2 ^ m.toNat) (2 ^ m.toNat - 1) (by omega) (by omega) (prf_all (ts := ts) hs fun k hk => by rw [Nat.testBit_two_pow_sub_one]; simpa using hk)
  exact List.length_pos_of_mem (mem_lpN.2 ⟨q1, q2⟩)
theorem lp_lt {m : Int} {ts : List T} {s : Nat} {i j : Nat} (hij : i < j) (hj : j < (lpN m ts s).length) : (lpN m ts s)[i]'(by omega) < (lpN m ts s)[j] := by
  have : (lpN m ts s).Pairwise (· < ·) := List.Pairwise.filter _ List.pairwise_lt_range
  exact List.pairwise_iff_getElem.1 this i j (by omega) hj hij
theorem at_N {N : List Nat} {i : Nat} (hi : i < N.length) : atI ((N.map fun (k : Nat) => (k : Int)).map .i) i = some (.i (N[i] : Nat)) := by
  simp [atI, hi]
theorem c_sameInts_self (N : List Nat) (ha : (N.length : Int) ≤ 1048576) : call lf n_laws_sameInts [.sl 0 ((N.map fun (k : Nat) => (k : Int)).map .i), .sl 0 ((N.map fun (k : Nat) => (k : Int)).map .i)] = some (.b true, []) := by
  rw [call_k lf n_laws_sameInts _ (F := F_laws_sameInts) rfl rfl]
  have lm : ((N.map fun (k : Nat) => (k : Int)).map DV.i).length = N.length := by simp
  have A := fun i (hi : i < N.length) => at_N hi
  generalize (N.map fun (k : Nat) => (k : Int)).map DV.i = es at *
  have L : ex lf F_laws_sameInts_W0 ⟨[(0, .sl 0 es), (1, .sl 0 es), (5, .i 0)], []⟩ = some (.exit 0, ⟨[(0, .sl 0 es), (1, .sl 0 es), (5, .i N.length)], []⟩) := by
    refine loop_count N.length (fun i => ⟨[(0, .sl 0 es), (1, .sl 0 es), (5, .i i)], []⟩) (fun i hi => ?_) ?_ (by simp)
    · have w1 : wr ((i : Int) + 1) = (i : Int) + 1 := wr_id (by omega) (by omega)
      have q := A i hi
      generalize N[i] = y at *
      simp [F_laws_sameInts_L0, hi, q, w1, lm]
    · simp [F_laws_sameInts_L0, lm]
  simp [F_laws_sameInts, L, lm]
theorem c_ascend (N : List Nat) (ha : (N.length : Int) ≤ 1048576) (h0 : 0 < N.length) (hlt : ∀ i (hi : i + 1 < N.length), N[i]'(by omega) < N[i + 1]) : call lf n_laws_ascend [.sl 0 ((N.map fun (k : Nat) => (k : Int)).map .i)] = some (.b true, []) := by
  rw [call_k lf n_laws_ascend _ (F := F_laws_ascend) rfl rfl]
  have lm : ((N.map fun (k : Nat) => (k : Int)).map DV.i).length = N.length := by simp
  have A := fun i (hi : i < N.length) => at_N hi
  generalize (N.map fun (k : Nat) => (k : Int)).map DV.i = es at *
  have L : ex lf F_laws_ascend_W0 ⟨[(0, .sl 0 es), (3, .i 1)], []⟩ = some (.exit 0, ⟨[(0, .sl 0 es), (3, .i N.length)], []⟩) := by
    refine loop_count (x := .exit 0) (N.length - 1) (fun i => ⟨[(0, .sl 0 es), (3, .i (i + 1))], []⟩) (fun i hi => ?_) ?_ (by simp)
    · have w1 : wr ((i : Int) + 1 + 1) = (i : Int) + 1 + 1 := wr_id (by omega) (by omega)
      have w2 : wr (i : Int) = (i : Int) := wr_id (by omega) (by omega)
      have q := A i (by omega)
      have q' := A (i + 1) (by omega)
      have lt := hlt i (by omega)
      have hi' : (i : Int) + 1 < N.length := by omega
      have ng : ¬ ((N[i + 1]'(by omega) : Nat) : Int) ≤ (N[i]'(by omega) : Nat) := by omega
      rw [show ((i + 1 : Nat) : Int) = (i : Int) + 1 by omega] at q'
      generalize N[i + 1] = y' at *
      generalize N[i] = y at *
      simp [F_laws_ascend_L0, hi', q, q', w1, w2, lm, lt, ng]
    · have e : ((N.length - 1 : Nat) : Int) + 1 = N.length := by omega
      simp only [e]
      simp [F_laws_ascend_L0, lm]
  simp [F_laws_ascend, L]
end
section
attribute [-simp] DV.cells
attribute [local simp] cells_st cells_sl cells_i cells_y cells_b cells_s
def dv (N : List Nat) : List DV := (N.map fun (k : Nat) => (k : Int)).map .i
theorem dv_len (N : List Nat) : (dv N).length = N.length := by simp [dv]
theorem dv_at {N : List Nat} {i : Nat} (hi : i < N.length) : atN (dv N) i = some (.i (N[i] : Nat)) := by
  show (dv N)[i]? = _
  unfold dv
  rw [List.getElem?_map, List.getElem?_map, List.getElem?_eq_getElem hi]; rfl
def obF (t : List T) (N M : List Nat) : OB := [(9234, t.map e2), (12808, dv N), (30216, dv M)]
set_option maxHeartbeats 4000000 in
theorem lpl_1 (m : Int) (t : List T) (N M : List Nat) (s z : Int) (b : Bool) (k : Nat) (hk : k < N.length) (hl : N.length ≤ 32) (h32 : ∀ o ∈ N, o < 32) (ha : ∀ j (hj : j < k), N[j]'(by omega) &&& N[k] ≠ N[j]'(by omega) ∧ N[j]'(by omega) &&& N[k] ≠ N[k]) :
    ex lf F_laws_FnLeastProofs_W1 ⟨[(3, .i m), (4, .own 9234 t.length 0 t.length), (5, .i s), (6, .own 12808 N.length 0 N.length), (7, .i z), (8, .own 30216 M.length 0 M.length), (9, .b b), (10, .i k), (11, .i 0)], obF t N M⟩ =
    some (.exit 2, ⟨[(3, .i m), (4, .own 9234 t.length 0 t.length), (5, .i s), (6, .own 12808 N.length 0 N.length), (7, .i z), (8, .own 30216 M.length 0 M.length), (9, .b b), (10, .i k), (11, .i k)], obF t N M⟩) := by
  refine loop_count (x := .exit 2) k (fun i => ⟨[(3, .i m), (4, .own 9234 t.length 0 t.length), (5, .i s), (6, .own 12808 N.length 0 N.length), (7, .i z), (8, .own 30216 M.length 0 M.length), (9, .b b), (10, .i k), (11, .i i)], obF t N M⟩) (fun i hi => ?_) ?_ (by simp)
  · have w1 : wr ((i : Int) + 1) = (i : Int) + 1 := wr_id (by omega) (by omega)
    have q1 := dv_at (N := N) (i := i) (by omega)
    have q2 := dv_at (N := N) (i := k) hk
    have o1 := h32 _ (List.getElem_mem (show i < N.length by omega))
    have o2 := h32 _ (List.getElem_mem hk)
    have an := and_nat o1 o2
    obtain ⟨a1, a2⟩ := ha i hi
    have lm := dv_len N
    have hi' : (i : Int) < k := by omega
    have hi2 : i < N.length := by omega
    unfold obF
    generalize dv N = es at *
    generalize dv M = es' at *
    have a1' : (((N[i]'(by omega) &&& N[k] : Nat) : Int) == (N[i]'(by omega) : Nat)) = false := beq_eq_false_iff_ne.2 (by omega)
    have a2' : (((N[i]'(by omega) &&& N[k] : Nat) : Int) == (N[k] : Nat)) = false := beq_eq_false_iff_ne.2 (by omega)
    generalize N[i]'(by omega) &&& N[k] = y3 at *
    generalize N[i]'(by omega) = y1 at *
    generalize N[k] = y2 at *
    simp [F_laws_FnLeastProofs_L1, hi, hi', hi2, hk, q1, q2, lm, w1, an, a1', a2']
  · unfold obF
    simp [F_laws_FnLeastProofs_L1]
set_option maxHeartbeats 4000000 in
theorem lpl_2 (m : Int) (t : List T) (N M : List Nat) (s z : Int) (b : Bool) (k : Nat) (hk : k < N.length) (hl : N.length ≤ 32) (hl' : M.length ≤ 32) (h32 : ∀ o ∈ N, o < 32) (h32' : ∀ o ∈ M, o < 32) (ha : b = true → ∀ p ∈ M, N[k] &&& p ≠ 0) :
    ∃ j : Int, ex lf F_laws_FnLeastProofs_W2 ⟨[(3, .i m), (4, .own 9234 t.length 0 t.length), (5, .i s), (6, .own 12808 N.length 0 N.length), (7, .i z), (8, .own 30216 M.length 0 M.length), (9, .b b), (10, .i k), (12, .i 0)], obF t N M⟩ =
    some (.exit 4, ⟨[(3, .i m), (4, .own 9234 t.length 0 t.length), (5, .i s), (6, .own 12808 N.length 0 N.length), (7, .i z), (8, .own 30216 M.length 0 M.length), (9, .b b), (10, .i k), (12, .i j)], obF t N M⟩) := by
  cases b with
  | false =>
    refine ⟨0, ?_⟩
    rw [w_laws_FnLeastProofs_2]
    have lm := dv_len M
    unfold obF
    by_cases h0 : 0 < M.length
    · simp [F_laws_FnLeastProofs_L2, lm, h0]
    · simp [F_laws_FnLeastProofs_L2, lm, h0]
  | true =>
    refine ⟨M.length, ?_⟩
    refine loop_count (x := .exit 4) M.length (fun i => ⟨[(3, .i m), (4, .own 9234 t.length 0 t.length), (5, .i s), (6, .own 12808 N.length 0 N.length), (7, .i z), (8, .own 30216 M.length 0 M.length), (9, .b true), (10, .i k), (12, .i i)], obF t N M⟩) (fun i hi => ?_) ?_ (by simp)
    · have w1 : wr ((i : Int) + 1) = (i : Int) + 1 := wr_id (by omega) (by omega)
      have q1 := dv_at (N := M) (i := i) hi
      have q2 := dv_at (N := N) (i := k) hk
      have o1 := h32' _ (List.getElem_mem hi)
      have o2 := h32 _ (List.getElem_mem hk)
      have an := and_nat o2 o1
      have a1 := ha rfl _ (List.getElem_mem hi)
      have lm := dv_len N
      have lm' := dv_len M
      have hi' : (i : Int) < M.length := by omega
      unfold obF
      generalize dv N = es at *
      generalize dv M = es' at *
      have a1' : (((N[k] &&& M[i] : Nat) : Int) == 0) = false := beq_eq_false_iff_ne.2 (by omega)
      generalize N[k] &&& M[i] = y3 at *
      generalize M[i] = y1 at *
      generalize N[k] = y2 at *
      simp [F_laws_FnLeastProofs_L2, hi, hi', hk, q1, q2, lm, lm', w1, an, a1']
    · have lm' := dv_len M
      unfold obF
      simp [F_laws_FnLeastProofs_L2]
set_option maxHeartbeats 4000000 in
theorem lpl_0 (m : Int) (t : List T) (N M : List Nat) (s : Int) (z : Nat) (b : Bool) (hz : z < 32) (ht : t.length ≤ 12) (hl : N.length ≤ 32) (hl' : M.length ≤ 32) (h32 : ∀ o ∈ N, o < 32) (h32' : ∀ o ∈ M, o < 32)
    (hp : ∀ o ∈ N, call lf n_impl_ProofOk [.i m, .sl 0 (t.map e2), .i s, .i o] = some (.b true, [])) (hi : ∀ o ∈ N, o &&& z = 0)
    (ha : ∀ j k (hk : k < N.length) (hj : j < k), N[j]'(by omega) &&& N[k] ≠ N[j]'(by omega) ∧ N[j]'(by omega) &&& N[k] ≠ N[k]) (hb : b = true → ∀ o ∈ N, ∀ p ∈ M, o &&& p ≠ 0) :
    ex lf F_laws_FnLeastProofs_W0 ⟨[(3, .i m), (4, .own 9234 t.length 0 t.length), (5, .i s), (6, .own 12808 N.length 0 N.length), (7, .i z), (8, .own 30216 M.length 0 M.length), (9, .b b), (10, .i 0)], obF t N M⟩ =
    some (.exit 0, ⟨[(3, .i m), (4, .own 9234 t.length 0 t.length), (5, .i s), (6, .own 12808 N.length 0 N.length), (7, .i z), (8, .own 30216 M.length 0 M.length), (9, .b b), (10, .i N.length)], obF t N M⟩) := by
  refine loop_count (x := .exit 0) N.length (fun i => ⟨[(3, .i m), (4, .own 9234 t.length 0 t.length), (5, .i s), (6, .own 12808 N.length 0 N.length), (7, .i z), (8, .own 30216 M.length 0 M.length), (9, .b b), (10, .i i)], obF t N M⟩) (fun i hk => ?_) ?_ (by simp)
  · have w1 : wr ((i : Int) + 1) = (i : Int) + 1 := wr_id (by omega) (by omega)
    have lb1 : t.length ≤ bound := by unfold bound; omega
    have q2 := dv_at (N := N) (i := i) hk
    have o2 := h32 _ (List.getElem_mem hk)
    have an := and_nat o2 hz
    rw [hi _ (List.getElem_mem hk)] at an
    have P := hp _ (List.getElem_mem hk)
    have L1 := lpl_1 m t N M s z b i hk hl h32 (fun j hj => ha j i hk hj)
    obtain ⟨j, L2⟩ := lpl_2 m t N M s z b i hk hl hl' h32 h32' (fun hb' => hb hb' _ (List.getElem_mem hk))
    have lm := dv_len N
    have hi' : (i : Int) < N.length := by omega
    unfold obF at *
    generalize dv N = es at *
    generalize dv M = es' at *
    generalize N[i] = y2 at *
    simp [F_laws_FnLeastProofs_L0, hk, hi', q2, lm, w1, an, P, L1, L2, lb1]
  · have lm := dv_len N
    unfold obF
    simp [F_laws_FnLeastProofs_L0]
set_option maxHeartbeats 4000000 in
theorem law_FnLeastProofs (x : List Nat) (_ : x.length ≤ Go.maxLen) (hb : ∀ y ∈ x, y < 256) : call lf n_laws_FnLeastProofs [bys x] = some (.b true, []) := by
  show call lf n_laws_FnLeastProofs [.sl 0 (x.map .y)] = _
  rw [call_k lf n_laws_FnLeastProofs _ (F := F_laws_FnLeastProofs) rfl rfl]
  by_cases hl : 1048576 < (x.length : Int)
  · simp (config := { maxSteps := 2000000 }) [F_laws_FnLeastProofs, hl]
  · obtain ⟨m, t, s, m1, t1, s1, d⟩ := c_DrawLeastProofs hb (by omega)
    have V1 := c_impl_LeastProofs m t s (by omega)
    have V2 := c_spec_LeastProofs m t s (by omega)
    have C1 := c_spec_TermOk m t (by omega)
    have C2 := c_spec_StateOk m s
    have lb1 : t.length ≤ bound := by unfold bound; omega
    cases hk : (tmOk m t && stOk m s) with
    | false =>
      have e : lpOf m t s = [] := by unfold lpOf; rw [hk]; rfl
      rw [e] at V1 V2
      have S := c_sameInts_self [] (by simp)
      simp only [List.map_nil] at V1 V2 S
      cases h1 : tmOk m t with
      | false =>
        rw [h1] at C1
        simp (config := { maxSteps := 2000000 }) [F_laws_FnLeastProofs, hl, d, V1, V2, S, C1, c_alive]
      | true =>
        rw [h1] at C1
        have h2 : stOk m s = false := by rw [h1] at hk; simpa using hk
        rw [h2] at C2
        simp (config := { maxSteps := 2000000 }) [F_laws_FnLeastProofs, hl, d, V1, V2, S, C1, C2, c_alive]
    | true =>
      have elp : lpOf m t s = sel (lpP m t s.toNat) (2 ^ m.toNat) := by unfold lpOf; rw [hk]; rfl
      rw [elp, sel_lpN] at V1 V2
      rw [Bool.and_eq_true] at hk
      rw [hk.1] at C1
      rw [hk.2] at C2
      have I1 := c_impl_IdleTests m t (by omega)
      have ei : idOf m t = (tabN (idP m t) m.toNat : Nat) := by unfold idOf; rw [hk.1]; rfl
      rw [ei] at I1
      obtain ⟨p1, p2, p3⟩ := pow5 m1.1 m1.2
      obtain ⟨_, s0, s2⟩ := stOk_iff.1 hk.2
      obtain ⟨q1, q2, q3⟩ := st_opp hk.2
      have hs : s.toNat < 2 ^ m.toNat := by omega
      have V3 := c_impl_LeastProofs m t (2 ^ m.toNat - 1 - s) (by omega)
      have elp3 : lpOf m t (2 ^ m.toNat - 1 - s) = sel (lpP m t (opp m s.toNat)) (2 ^ m.toNat) := by unfold lpOf; rw [hk.1, q1, q2]; rfl
      rw [elp3, sel_lpN] at V3
      have A1 := c_impl_ValueOf m t s (by omega)
      have A2 := c_impl_ValueOf m t (2 ^ m.toNat - 1 - s) (by omega)
      have ea1 : vOf m t s = tv t s.toNat := by unfold vOf; rw [hk.1, hk.2]; rfl
      have ea2 : vOf m t (2 ^ m.toNat - 1 - s) = tv t (opp m s.toNat) := by unfold vOf; rw [hk.1, q1, q2]; rfl
      rw [ea1] at A1
      rw [ea2] at A2
      have nl := lpN_len m t s.toNat
      have nl' := lpN_len m t (opp m s.toNat)
      have z1 := tabN_lt (idP m t) m.toNat
      have S := c_sameInts_self (lpN m t s.toNat) (by omega)
      have pos := lp_some m1.1 m1.2 (ts := t) hs
      have As := c_ascend (lpN m t s.toNat) (by omega) pos (fun i hi => lp_lt (Nat.lt_succ_self i) hi)
      have ne : ∀ u v : Bool, (u != v) = true → u ≠ v := fun u v h e => by rw [e] at h; simp at h
      have U := lpl_0 m t (lpN m t s.toNat) (lpN m t (opp m s.toNat)) s (tabN (idP m t) m.toNat) (tv t s.toNat != tv t (opp m s.toNat)) (by omega) t1 (by omega) (by omega)
        (fun o ho => by have := (mem_lpN.1 ho).1; omega) (fun o ho => by have := (mem_lpN.1 ho).1; omega)
        (fun o ho => by
          have C := c_impl_ProofOk m t s o (by omega)
          obtain ⟨o1, o2⟩ := mem_lpN.1 ho
          have so : stOk m o = true := stOk_iff.2 ⟨m1, by omega, by omega⟩
          have e : pfOf m t s o = true := by
            unfold pfOf
            rw [hk.1, hk.2, so, Int.toNat_natCast, (lpP_iff.1 o2).1]; rfl
          rw [e] at C
          exact C)
        (fun o ho => lp_idle m1.1 m1.2 hs ho)
        (fun j k hk hj => by
          have lt := lp_lt hj hk
          have a := lp_anti m1.1 m1.2 hs (List.getElem_mem (show j < (lpN m t s.toNat).length by omega)) (List.getElem_mem hk) (by omega)
          have b := lp_anti m1.1 m1.2 hs (List.getElem_mem hk) (List.getElem_mem (show j < (lpN m t s.toNat).length by omega)) (by omega)
          rw [Nat.and_comm] at b
          exact ⟨a, b⟩)
        (fun hd o ho p hp => lp_meet m1.1 m1.2 hs ho hp (ne _ _ hd))
      have sh := shl1 (k := m) (by omega) (by omega)
      have n1 : ¬ (m < 0) := by omega
      have w1 : wr ((2 : Int) ^ m.toNat - 1) = 2 ^ m.toNat - 1 := wr_id (by omega) (by omega)
      have w2 : wr ((2 : Int) ^ m.toNat - 1 - s) = 2 ^ m.toNat - 1 - s := wr_id (by omega) (by omega)
      have lb3 : (lpN m t s.toNat).length ≤ bound := by unfold bound; omega
      have lb4 : (lpN m t (opp m s.toNat)).length ≤ bound := by unfold bound; omega
      have lm := dv_len (lpN m t s.toNat)
      have lm' := dv_len (lpN m t (opp m s.toNat))
      have eb : (!(tv t s.toNat == tv t (opp m s.toNat))) = (tv t s.toNat != tv t (opp m s.toNat)) := rfl
      have f1 : ((lpN m t s.toNat).map fun (k : Nat) => (k : Int)).length = (lpN m t s.toNat).length := by simp
      have f2 : ((lpN m t (opp m s.toNat)).map fun (k : Nat) => (k : Int)).length = (lpN m t (opp m s.toNat)).length := by simp
      have tk1 : List.take (lpN m t s.toNat).length (dv (lpN m t s.toNat)) = dv (lpN m t s.toNat) := List.take_of_length_le (by rw [lm]; exact Nat.le_refl _)
      have tk2 : List.take (lpN m t (opp m s.toNat)).length (dv (lpN m t (opp m s.toNat))) = dv (lpN m t (opp m s.toNat)) := List.take_of_length_le (by rw [lm']; exact Nat.le_refl _)
      unfold obF at U
      unfold dv at *
      generalize tabN (idP m t) m.toNat = z at *
      generalize lpN m t s.toNat = N at *
      generalize lpN m t (opp m s.toNat) = M at *
      generalize tv t s.toNat = b1 at *
      generalize tv t (opp m s.toNat) = b2 at *
      generalize (N.map fun (k : Nat) => (k : Int)) = Ni at *
      generalize (M.map fun (k : Nat) => (k : Int)) = Mi at *
      cases b1 <;> cases b2 <;> simp at U <;> simp (config := { maxSteps := 2000000 }) [F_laws_FnLeastProofs, hl, d, V1, V2, V3, S, C1, C2, I1, A1, A2, As, U, sh, n1, w1, w2, lb1, lb3, lb4, lm, lm', f1, f2, tk1, tk2, pos]
end
section
attribute [-simp] DV.cells
attribute [local simp] cells_st cells_sl cells_i cells_y cells_b cells_s
theorem or_one {m o : Int} (h1 : 1 ≤ m) (h5 : m ≤ 5) (o0 : 0 ≤ o) (o1 : o < 2 ^ m.toNat) {k : Nat} (hk : (k : Int) < m) : 0 ≤ orI o (2 ^ k) ∧ orI o (2 ^ k) < 2 ^ m.toNat ∧ (orI o (2 ^ k)).toNat = o.toNat ||| 2 ^ k := by
  have hp : ((2 ^ k : Nat) : Int) = 2 ^ k := by simp
  have hk2 : (2 ^ k : Nat) < 2 ^ m.toNat := Nat.pow_lt_pow_right (by omega) (by omega)
  obtain ⟨p1, p2, p3⟩ := pow5 h1 h5
  obtain ⟨a, b, c⟩ := or_lt h1 h5 o0 o1 (b := 2 ^ k) (by rw [← hp]; exact Int.natCast_nonneg _) (by rw [← hp]; omega)
  refine ⟨a, b, ?_⟩
  rw [c, ← hp, Int.toNat_natCast]
set_option maxHeartbeats 4000000 in
theorem law_FnProofOk (x : List Nat) (_ : x.length ≤ Go.maxLen) (hb : ∀ y ∈ x, y < 256) : call lf n_laws_FnProofOk [bys x] = some (.b true, []) := by
  show call lf n_laws_FnProofOk [.sl 0 (x.map .y)] = _
  rw [call_k lf n_laws_FnProofOk _ (F := F_laws_FnProofOk) rfl rfl]
  by_cases hl : 1048576 < (x.length : Int)
  · simp (config := { maxSteps := 2000000 }) [F_laws_FnProofOk, hl]
  · obtain ⟨m, t, s, o, m1, t1, s1, o1, d⟩ := c_DrawProofOk hb (by omega)
    have V1 := c_impl_ProofOk m t s o (by omega)
    have V2 := c_spec_ProofOk m t s o (by omega)
    have C1 := c_spec_TermOk m t (by omega)
    have C2 := c_spec_StateOk m s
    have C3 := c_spec_StateOk m o
    have lb1 : t.length ≤ bound := by unfold bound; omega
    cases hk : tmOk m t with
    | false =>
      have e : pfOf m t s o = false := by unfold pfOf; rw [hk]; rfl
      rw [e] at V1 V2
      rw [hk] at C1
      simp (config := { maxSteps := 2000000 }) [F_laws_FnProofOk, hl, d, V1, V2, C1, c_alive]
    | true =>
      rw [hk] at C1
      cases hs : stOk m s with
      | false =>
        have e : pfOf m t s o = false := by unfold pfOf; rw [hk, hs]; rfl
        rw [e] at V1 V2
        rw [hs] at C2
        simp (config := { maxSteps := 2000000 }) [F_laws_FnProofOk, hl, d, V1, V2, C1, C2, c_alive]
      | true =>
        rw [hs] at C2
        have ho : stOk m o = true := stOk_iff.2 ⟨m1, o1⟩
        rw [ho] at C3
        obtain ⟨k1, k2, k3⟩ := tm_dual hk
        obtain ⟨q1, q2, q3⟩ := st_opp hs
        obtain ⟨s0, s32⟩ := st32 hs
        obtain ⟨p1, p2, p3⟩ := pow5 m1.1 m1.2
        have hlen : (t.map dT).length = t.length := List.length_map ..
        have D := c_impl_DualTerm m t (by omega)
        rw [hk] at D
        have V3 := c_impl_ProofOk m (t.map dT) (2 ^ m.toNat - 1 - s) o (by omega)
        have V4 := c_impl_ProofOk m t s (2 ^ m.toNat - 1) (by omega)
        have e1 : pfOf m t s o = prf m t s.toNat o.toNat := by unfold pfOf; rw [hk, hs, ho]; rfl
        have e3 : pfOf m (t.map dT) (2 ^ m.toNat - 1 - s) o = prf m t s.toNat o.toNat := by unfold pfOf; rw [k1, q1, ho, q2, prf_dual hk q3]; rfl
        have e4 : pfOf m t s (2 ^ m.toNat - 1) = true := by
          have ha : stOk m (2 ^ m.toNat - 1) = true := stOk_iff.2 ⟨m1, by omega, by omega⟩
          have hn : ((2 : Int) ^ m.toNat - 1).toNat = 2 ^ m.toNat - 1 := by omega
          unfold pfOf
          rw [hk, hs, ha, hn, prf_all q3 fun k hk => by rw [Nat.testBit_two_pow_sub_one]; simpa using hk]; rfl
        rw [e1] at V1 V2
        rw [e3] at V3
        rw [e4] at V4
        have sh := shl1 (k := m) (by omega) (by omega)
        have n1 : ¬ (m < 0) := by omega
        have w1 : wr ((2 : Int) ^ m.toNat - 1) = 2 ^ m.toNat - 1 := wr_id (by omega) (by omega)
        have w2 : wr ((2 : Int) ^ m.toNat - 1 - s) = 2 ^ m.toNat - 1 - s := wr_id (by omega) (by omega)
        have tku : List.take t.length ((t.map dT).map e2) = (t.map dT).map e2 := by rw [← hlen]; exact tk_e2 _
        have mm : m = (m.toNat : Int) := by omega
        cases hp : prf m t s.toNat o.toNat with
        | false =>
          rw [hp] at V1 V2 V3
          have L : ex lf F_laws_FnProofOk_W0 ⟨[(3, .i m), (4, .own 7698 t.length 0 t.length), (5, .i s), (6, .i o), (7, .b false), (8, .i 0)], [(7698, t.map e2)]⟩ = some (.exit 0, ⟨[(3, .i m), (4, .own 7698 t.length 0 t.length), (5, .i s), (6, .i o), (7, .b false), (8, .i 0)], [(7698, t.map e2)]⟩) := by
            have n0 : (0 : Int) < m := by omega
            rw [w_laws_FnProofOk_0]
            simp [F_laws_FnProofOk_L0, n0]
          generalize t.map dT = u at *
          simp at D
          simp (config := { maxSteps := 2000000 }) [F_laws_FnProofOk, hl, d, V1, V2, V3, V4, C1, C2, C3, D, L, sh, n1, w1, w2, lb1, tku, hlen]
        | true =>
          rw [hp] at V1 V2 V3
          have L : ex lf F_laws_FnProofOk_W0 ⟨[(3, .i m), (4, .own 7698 t.length 0 t.length), (5, .i s), (6, .i o), (7, .b true), (8, .i 0)], [(7698, t.map e2)]⟩ = some (.exit 0, ⟨[(3, .i m), (4, .own 7698 t.length 0 t.length), (5, .i s), (6, .i o), (7, .b true), (8, .i m.toNat)], [(7698, t.map e2)]⟩) := by
            refine loop_count m.toNat (fun i => ⟨[(3, .i m), (4, .own 7698 t.length 0 t.length), (5, .i s), (6, .i o), (7, .b true), (8, .i i)], [(7698, t.map e2)]⟩) (fun i hi => ?_) ?_ (by simp)
            · have hi' : (i : Int) < m := by omega
              obtain ⟨r1, r2, r3⟩ := or_one m1.1 m1.2 o1.1 o1.2 hi'
              have V5 := c_impl_ProofOk m t s (orI o (2 ^ i)) (by omega)
              have e5 : pfOf m t s (orI o (2 ^ i)) = true := by
                have ha : stOk m (orI o (2 ^ i)) = true := stOk_iff.2 ⟨m1, r1, r2⟩
                unfold pfOf
                rw [hk, hs, ha, r3, prf_mono q3 (fun k _ hb => by rw [Nat.testBit_or, hb]; rfl) hp]; rfl
              rw [e5] at V5
              have sh2 := shl1 (k := (i : Int)) (by omega) (by omega)
              rw [Int.toNat_natCast] at sh2
              have n2 : ¬ ((i : Int) < 0) := by omega
              have w3 : wr ((i : Int) + 1) = i + 1 := wr_id (by omega) (by omega)
              simp [F_laws_FnProofOk_L0, hi', sh2, n2, w3, V5, lb1]
            · have mx : max m 0 = m := by omega
              simp [F_laws_FnProofOk_L0, mx]
          generalize t.map dT = u at *
          simp at D
          simp (config := { maxSteps := 2000000 }) [F_laws_FnProofOk, hl, d, V1, V2, V3, V4, C1, C2, C3, D, L, sh, n1, w1, w2, lb1, tku, hlen]
end
section
attribute [-simp] DV.cells
attribute [local simp] cells_st cells_sl cells_i cells_y cells_b cells_s
def iN (k : Nat) : Int := k
theorem mem32 {m : Int} (h1 : 1 ≤ m) (h5 : m ≤ 5) {ts : List T} {s o : Nat} (h : o ∈ lpN m ts s) : o < 32 := by
  obtain ⟨p1, p2, p3⟩ := pow5 h1 h5
  have := (mem_lpN.1 h).1
  omega
set_option maxHeartbeats 4000000 in
theorem ti_and (m : Int) (t : List T) (N : List Nat) (n X : Int) (x : Nat) (hN : ∀ o ∈ N, o < 32) (hl : N.length ≤ 32) (hx : x < 32) :
    ex lf F_laws_FnTurnsIn_W0 ⟨[(3, .i m), (4, .own 7698 t.length 0 t.length), (6, .i n), (7, .i x), (8, .own 21512 N.length 0 N.length), (9, .i 0)], [(7698, t.map e2), (21512, (N.map iN).map .i)]⟩ =
    some (.exit 0, ⟨[(3, .i m), (4, .own 7698 t.length 0 t.length), (6, .i n), (7, .i (anN N x)), (8, .own 21512 N.length 0 N.length), (9, .i N.length)], [(7698, t.map e2), (21512, (N.map iN).map .i)]⟩) := by
  have L := loop_count (lf := lf) (L := F_laws_FnTurnsIn_L0) N.length (fun i => ⟨[(3, .i m), (4, .own 7698 t.length 0 t.length), (6, .i n), (7, .i (anN (N.take i) x)), (8, .own 21512 N.length 0 N.length), (9, .i i)], [(7698, t.map e2), (21512, (N.map iN).map .i)]⟩) (x := .exit 0) (R := ⟨[(3, .i m), (4, .own 7698 t.length 0 t.length), (6, .i n), (7, .i (anN (N.take N.length) x)), (8, .own 21512 N.length 0 N.length), (9, .i N.length)], [(7698, t.map e2), (21512, (N.map iN).map .i)]⟩) (fun i hi => by
    have hlt : (i : Int) < N.length := by omega
    have q5 : atN ((N.map iN).map .i) i = some (.i (N[i] : Nat)) := by
      show ((N.map iN).map DV.i)[i]? = _
      rw [List.getElem?_map, List.getElem?_map, List.getElem?_eq_getElem hi]; rfl
    have w1 : wr ((i : Int) + 1) = (i : Int) + 1 := wr_id (by omega) (by omega)
    have o1 := hN _ (List.getElem_mem hi)
    have o2 := anN_le (N.take i) x
    have an := and_nat (a := anN (N.take i) x) (b := N[i]) (by omega) o1
    have e : anN (N.take (i + 1)) x = anN (N.take i) x &&& N[i] := by
      unfold anN; rw [List.take_succ_eq_append_getElem hi, List.foldl_append]; rfl
    have lm : ((N.map iN).map DV.i).length = N.length := by simp
    simp only [e]
    rw [← an]
    generalize (N.map iN).map DV.i = es at *
    generalize N[i] = y at *
    simp [F_laws_FnTurnsIn_L0, hi, hlt, q5, lm, w1]) (by
    simp [F_laws_FnTurnsIn_L0]) (by simp)
  rw [List.take_length] at L
  exact L
set_option maxHeartbeats 4000000 in
theorem law_FnTurnsIn (x : List Nat) (_ : x.length ≤ Go.maxLen) (hb : ∀ y ∈ x, y < 256) : call lf n_laws_FnTurnsIn [bys x] = some (.b true, []) := by
  show call lf n_laws_FnTurnsIn [.sl 0 (x.map .y)] = _
  rw [call_k lf n_laws_FnTurnsIn _ (F := F_laws_FnTurnsIn) rfl rfl]
  by_cases hl : 1048576 < (x.length : Int)
  · simp (config := { maxSteps := 2000000 }) [F_laws_FnTurnsIn, hl]
  · obtain ⟨m, t, s, m1, t1, s1, d⟩ := c_DrawTurnsIn hb (by omega)
    have V1 := c_impl_TurnsIn m t s (by omega)
    have V2 := c_spec_TurnsIn m t s (by omega)
    have lb1 : t.length ≤ bound := by unfold bound; omega
    cases hk : (tmOk m t && stOk m s) with
    | false =>
      have e : tuOf m t s = -1 := by unfold tuOf; rw [hk]; rfl
      rw [e] at V1 V2
      simp (config := { maxSteps := 2000000 }) [F_laws_FnTurnsIn, hl, d, V1, V2, c_alive]
    | true =>
      have e : tuOf m t s = (tabN (tuP t s.toNat) m.toNat : Nat) := by unfold tuOf; rw [hk]; rfl
      rw [e] at V1 V2
      have I1 := c_impl_IdleTests m t (by omega)
      have LP := c_impl_LeastProofs m t s (by omega)
      have elp : lpOf m t s = sel (lpP m t s.toNat) (2 ^ m.toNat) := by unfold lpOf; rw [hk]; rfl
      rw [elp, sel_lpN] at LP
      rw [Bool.and_eq_true] at hk
      have ei : idOf m t = (tabN (idP m t) m.toNat : Nat) := by unfold idOf; rw [hk.1]; rfl
      rw [ei] at I1
      obtain ⟨p1, p2, p3⟩ := pow5 m1.1 m1.2
      obtain ⟨_, s0, s2⟩ := stOk_iff.1 hk.2
      have hs : s.toNat < 2 ^ m.toNat := by omega
      have A := an_turn m1.1 m1.2 (ts := t) hs
      have Z := turn_idle0 m1.1 m1.2 (ts := t) hs
      have nl := lpN_len m t s.toNat
      have U := ti_and m t (lpN m t s.toNat) (tabN (tuP t s.toNat) m.toNat : Nat) 0 (2 ^ m.toNat - 1) (fun o ho => mem32 m1.1 m1.2 ho) (by omega) (by omega)
      rw [A] at U
      have b1 := tabN_lt (tuP t s.toNat) m.toNat
      have b2 := tabN_lt (idP m t) m.toNat
      have an := and_nat (a := tabN (tuP t s.toNat) m.toNat) (b := tabN (idP m t) m.toNat) (by omega) (by omega)
      rw [Z] at an
      have nn : ¬ ((tabN (tuP t s.toNat) m.toNat : Nat) : Int) < 0 := by omega
      have az : andNotI (tabN (tuP t s.toNat) m.toNat : Nat) (tabN (tuP t s.toNat) m.toNat : Nat) = 0 := by
        rw [andn_nat (by omega) (by omega)]
        have : tabN (tuP t s.toNat) m.toNat &&& (31 ^^^ tabN (tuP t s.toNat) m.toNat) = 0 := by
          apply Nat.eq_of_testBit_eq
          intro a
          rw [Nat.testBit_and, Nat.testBit_xor, Nat.zero_testBit]
          by_cases h5 : a < 5
          · rw [show (31 : Nat) = 2 ^ 5 - 1 from rfl, Nat.testBit_two_pow_sub_one]
            cases (tabN (tuP t s.toNat) m.toNat).testBit a <;> simp [h5]
          · rw [Nat.testBit_lt_two_pow (Nat.lt_of_lt_of_le b1 (Nat.le_trans p2 (by rw [show (32 : Nat) = 2 ^ 5 from rfl]; exact Nat.pow_le_pow_right (by omega) (by omega))))]
            simp
        rw [this]; rfl
      have sh := shl1 (k := m) (by omega) (by omega)
      have n1 : ¬ (m < 0) := by omega
      have w1 : wr ((2 : Int) ^ m.toNat - 1) = (2 ^ m.toNat - 1 : Nat) := by rw [wr_id (by omega) (by omega)]; omega
      have lb3 : (lpN m t s.toNat).length ≤ bound := by unfold bound; omega
      have mp : ((lpN m t s.toNat).map fun (k : Nat) => (k : Int)) = (lpN m t s.toNat).map iN := rfl
      rw [mp] at LP
      have lm : ((lpN m t s.toNat).map iN).length = (lpN m t s.toNat).length := by simp
      generalize hT : tabN (tuP t s.toNat) m.toNat = y at *
      generalize tabN (idP m t) m.toNat = z at *
      generalize lpN m t s.toNat = N at *
      generalize N.map iN = Ni at *
      generalize 2 ^ m.toNat - 1 = al at *
      simp (config := { maxSteps := 2000000 }) [F_laws_FnTurnsIn, hl, d, V1, V2, I1, LP, U, an, az, nn, sh, n1, w1, lb1, lb3, lm]
end
section
def cz (ts : List T) (i : Nat) : List DV := (ts.take i).map e2 ++ List.replicate (ts.length - i) (.st [.i 0, .i 0])
theorem cz_len {ts : List T} {i : Nat} (hi : i ≤ ts.length) : (cz ts i).length = ts.length := by simp [cz]; omega
theorem cz_set {ts : List T} {i : Nat} {t : T} (hi : i < ts.length) (h : ts.take (i + 1) = ts.take i ++ [t]) : (cz ts i).set i (.st [.i t.1, .i t.2]) = cz ts (i + 1) := by
  have : ((ts.take i).map e2).length = i := by simp; omega
  unfold cz
  rw [List.set_append_right _ _ (by omega), this, Nat.sub_self, h, show ts.length - i = (ts.length - (i + 1)) + 1 by omega, List.replicate_succ, List.set_cons_zero, List.map_append, List.append_assoc]
  rfl
theorem cz_get {ts : List T} {i : Nat} (hi : i < ts.length) : atN (cz ts i) i = some (.st [.i 0, .i 0]) := by
  show (cz ts i)[i]? = _
  have : ((ts.take i).map e2).length = i := by simp; omega
  unfold cz
  rw [List.getElem?_append_right (by omega), this, Nat.sub_self, List.getElem?_replicate]
  simp; omega
theorem cz_zero (ts : List T) : cz ts 0 = List.replicate ts.length (.st [.i 0, .i 0]) := by simp [cz]
theorem cz_all (ts : List T) : cz ts ts.length = ts.map e2 := by simp [cz]
end
section
def ci (ts : List Int) (i : Nat) : List DV := (ts.take i).map .i ++ List.replicate (ts.length - i) (.i 0)
theorem ci_len {ts : List Int} {i : Nat} (hi : i ≤ ts.length) : (ci ts i).length = ts.length := by simp [ci]; omega
theorem ci_set {ts : List Int} {i : Nat} {t : Int} (hi : i < ts.length) (h : ts.take (i + 1) = ts.take i ++ [t]) : (ci ts i).set i (.i t) = ci ts (i + 1) := by
  have : ((ts.take i).map DV.i).length = i := by simp; omega
  unfold ci
  rw [List.set_append_right _ _ (by omega), this, Nat.sub_self, h, show ts.length - i = (ts.length - (i + 1)) + 1 by omega, List.replicate_succ, List.set_cons_zero, List.map_append, List.append_assoc]
  rfl
theorem ci_get {ts : List Int} {i : Nat} (hi : i < ts.length) : atN (ci ts i) i = some (.i 0) := by
  show (ci ts i)[i]? = _
  have : ((ts.take i).map DV.i).length = i := by simp; omega
  unfold ci
  rw [List.getElem?_append_right (by omega), this, Nat.sub_self, List.getElem?_replicate]
  simp; omega
theorem ci_zero (ts : List Int) : ci ts 0 = List.replicate ts.length (.i 0) := by simp [ci]
theorem ci_all (ts : List Int) : ci ts ts.length = ts.map .i := by simp [ci]
theorem at_i {ks : List Int} {i : Nat} (hi : i < ks.length) : ∃ k, ks[i]? = some k ∧ k ∈ ks ∧ atI (ks.map .i) i = some (.i k) ∧ ks.take (i + 1) = ks.take i ++ [k] := by
  refine ⟨ks[i], List.getElem?_eq_getElem hi, List.getElem_mem hi, ?_, List.take_succ_eq_append_getElem hi⟩
  simp [atI, hi]
theorem c_toIntS (ts : List Int) (hb : (ts.length : Int) ≤ 1048576) : call lf n_laws_toIntS [.sl 0 (ts.map .i)] = some (.fr 1 (ts.map .i), []) := by
  rw [call_k lf n_laws_toIntS _ (F := F_laws_toIntS) rfl rfl]
  have L : ex lf F_laws_toIntS_W0 ⟨[(0, .sl 0 (ts.map .i)), (3, .own 3592 ts.length 0 ts.length), (4, .i 0)], [(3592, ci ts 0)]⟩ =
      some (.exit 0, ⟨[(0, .sl 0 (ts.map .i)), (3, .own 3592 ts.length 0 ts.length), (4, .i ts.length)], [(3592, ci ts ts.length)]⟩) := by
    refine loop_count ts.length (fun i => ⟨[(0, .sl 0 (ts.map .i)), (3, .own 3592 ts.length 0 ts.length), (4, .i i)], [(3592, ci ts i)]⟩) (fun i hi => ?_) ?_ (by simp)
    · obtain ⟨t, q1, q2, q3, q4⟩ := at_i hi
      have w1 : wr ((i : Int) + 1) = (i : Int) + 1 := wr_id (by omega) (by omega)
      have c1 := ci_len (ts := ts) (i := i) (by omega)
      have c2 := ci_get hi
      have c3 := ci_set hi q4
      simp [F_laws_toIntS_L0, hi, q3, w1, c1, c2, c3]
    · simp [F_laws_toIntS_L0]
  have b1 : (ts.length : Int) ≤ bound := by unfold bound; omega
  rw [ci_zero, ci_all] at L
  simp [F_laws_toIntS, b1, L]
theorem c_eqIntS_self (aS : List Int) (ha : (aS.length : Int) ≤ 1048576) : call lf n_laws_eqIntS [.sl 0 (aS.map .i), .sl 0 (aS.map .i)] = some (.b true, []) := by
  rw [call_k lf n_laws_eqIntS _ (F := F_laws_eqIntS) rfl rfl]
  have L : ex lf F_laws_eqIntS_W0 ⟨[(0, .sl 0 (aS.map .i)), (1, .sl 0 (aS.map .i)), (5, .i 0)], []⟩ = some (.exit 0, ⟨[(0, .sl 0 (aS.map .i)), (1, .sl 0 (aS.map .i)), (5, .i aS.length)], []⟩) := by
    refine loop_count aS.length (fun i => ⟨[(0, .sl 0 (aS.map .i)), (1, .sl 0 (aS.map .i)), (5, .i i)], []⟩) (fun i hi => ?_) ?_ (by simp)
    · obtain ⟨t, q1, q2, q3, q4⟩ := at_i hi
      have w1 : wr ((i : Int) + 1) = (i : Int) + 1 := wr_id (by omega) (by omega)
      simp [F_laws_eqIntS_L0, hi, q3, w1]
    · simp [F_laws_eqIntS_L0]
  simp [F_laws_eqIntS, L]
end
section
theorem c_toMark (t : T) : call lf n_laws_toMark [e2 t] = some (e2 t, []) := by
  rw [call_k lf n_laws_toMark _ (F := F_laws_toMark) rfl rfl]
  simp [F_laws_toMark, e2]
theorem c_szMarkS (ts : List T) (n : Int) (h0 : 0 ≤ n) (h1 : n ≤ 1048576) (hb : (ts.length : Int) ≤ 9223372036854775807) : call lf n_laws_szMarkS [.sl 0 (ts.map e2), .i n] = some (.i (if n < ts.length then -1 else n - ts.length), []) := by
  rw [call_k lf n_laws_szMarkS _ (F := F_laws_szMarkS) rfl rfl]
  have w : wr (n - ts.length) = n - ts.length := wr_id (by omega) (by omega)
  by_cases h : n < ts.length
  · have h' : n - ts.length < 0 := by omega
    simp [F_laws_szMarkS, w, h, h']
  · have h' : ¬ n - ts.length < 0 := by omega
    simp [F_laws_szMarkS, w, h, h']
theorem c_toMarkS (ts : List T) (hb : (ts.length : Int) ≤ 1048576) : call lf n_laws_toMarkS [.sl 0 (ts.map e2)] = some (.fr 2 (ts.map e2), []) := by
  rw [call_k lf n_laws_toMarkS _ (F := F_laws_toMarkS) rfl rfl]
  have L : ex lf F_laws_toMarkS_W0 ⟨[(0, .sl 0 (ts.map e2)), (3, .own 3600 ts.length 0 ts.length), (4, .i 0)], [(3600, cz ts 0)]⟩ =
      some (.exit 0, ⟨[(0, .sl 0 (ts.map e2)), (3, .own 3600 ts.length 0 ts.length), (4, .i ts.length)], [(3600, cz ts ts.length)]⟩) := by
    refine loop_count ts.length (fun i => ⟨[(0, .sl 0 (ts.map e2)), (3, .own 3600 ts.length 0 ts.length), (4, .i i)], [(3600, cz ts i)]⟩) (fun i hi => ?_) ?_ (by simp)
    · obtain ⟨t, q1, q2, q3, q4⟩ := at_e2 hi
      have w1 : wr ((i : Int) + 1) = (i : Int) + 1 := wr_id (by omega) (by omega)
      have c1 := cz_len (ts := ts) (i := i) (by omega)
      have c2 := cz_get hi
      have c3 := cz_set hi q4
      have C := c_toMark t
      simp only [e2] at C
      simp [F_laws_toMarkS_L0, hi, q3, w1, c1, c2, c3, C]
    · simp [F_laws_toMarkS_L0]
  have b1 : (ts.length : Int) ≤ bound := by unfold bound; omega
  rw [cz_zero, cz_all] at L
  simp [F_laws_toMarkS, b1, L]
theorem c_eqMark (t u : T) : call lf n_laws_eqMark [e2 t, e2 u] = some (.b (t.1 == u.1 && t.2 == u.2), []) := by
  rw [call_k lf n_laws_eqMark _ (F := F_laws_eqMark) rfl rfl]
  by_cases h1 : t.1 = u.1
  · by_cases h2 : t.2 = u.2
    · simp [F_laws_eqMark, e2, h1, h2]
    · have h3 : (t.2 != u.2) = true := bne_iff_ne.2 h2
      have h4 : (t.2 == u.2) = false := beq_eq_false_iff_ne.2 h2
      simp [F_laws_eqMark, e2, h1, h3, h4]
  · have h3 : (t.1 != u.1) = true := bne_iff_ne.2 h1
    have h4 : (t.1 == u.1) = false := beq_eq_false_iff_ne.2 h1
    simp [F_laws_eqMark, e2, h3, h4]
theorem c_eqMarkS_self (aS : List T) (ha : (aS.length : Int) ≤ 1048576) : call lf n_laws_eqMarkS [.sl 0 (aS.map e2), .sl 0 (aS.map e2)] = some (.b true, []) := by
  rw [call_k lf n_laws_eqMarkS _ (F := F_laws_eqMarkS) rfl rfl]
  have L : ex lf F_laws_eqMarkS_W0 ⟨[(0, .sl 0 (aS.map e2)), (1, .sl 0 (aS.map e2)), (5, .i 0)], []⟩ = some (.exit 0, ⟨[(0, .sl 0 (aS.map e2)), (1, .sl 0 (aS.map e2)), (5, .i aS.length)], []⟩) := by
    refine loop_count aS.length (fun i => ⟨[(0, .sl 0 (aS.map e2)), (1, .sl 0 (aS.map e2)), (5, .i i)], []⟩) (fun i hi => ?_) ?_ (by simp)
    · obtain ⟨t, q1, q2, q3, q4⟩ := at_e2 hi
      have w1 : wr ((i : Int) + 1) = (i : Int) + 1 := wr_id (by omega) (by omega)
      have C := c_eqMark t t
      simp only [e2, beq_self_eq_true, Bool.and_self] at C
      simp [F_laws_eqMarkS_L0, hi, q3, w1, C]
    · simp [F_laws_eqMarkS_L0]
  simp [F_laws_eqMarkS, L]
end
section
set_option maxHeartbeats 4000000 in
theorem law_FnExactProofOk (m : Int) (_ : -9223372036854775808 ≤ m ∧ m ≤ 9223372036854775807) (x : List (Int × Int)) (hx : x.length ≤ Go.maxLen) (s : Int) (_ : -9223372036854775808 ≤ s ∧ s ≤ 9223372036854775807) (o : Int) (_ : -9223372036854775808 ≤ o ∧ o ≤ 9223372036854775807) : call lf n_laws_FnExactProofOk [.i m, rs2 x, .i s, .i o] = some (.b true, []) := by
  show call lf n_laws_FnExactProofOk [.i m, .sl 0 (x.map e2), .i s, .i o] = _
  rw [call_k lf n_laws_FnExactProofOk _ (F := F_laws_FnExactProofOk) rfl rfl]
  have hz : (x.length : Int) ≤ 9223372036854775807 := by unfold Go.maxLen at hx; omega
  have S := c_szMarkS x 1048576 (by omega) (by omega) hz
  by_cases h : (1048576 : Int) < x.length
  · simp [F_laws_FnExactProofOk, S, h]
  · have hm : (x.length : Int) < 1099511627776 := by omega
    have n1 : ¬ ((1048576 : Int) - x.length < 0) := by omega
    have A := c_toMarkS x (by omega)
    have Q := c_eqMarkS_self x (by omega)
    have C1 := c_impl_ProofOk m x s o hm
    have C2 := c_spec_ProofOk m x s o hm
    simp (config := { maxSteps := 2000000 }) [F_laws_FnExactProofOk, S, h, n1, A, Q, C1, C2]
set_option maxHeartbeats 4000000 in
theorem law_FnExactForcedBy (m : Int) (_ : -9223372036854775808 ≤ m ∧ m ≤ 9223372036854775807) (x : List (Int × Int)) (hx : x.length ≤ Go.maxLen) (y : List Int) (hy : y.length ≤ Go.maxLen) : call lf n_laws_FnExactForcedBy [.i m, rs2 x, ins y] = some (.b true, []) := by
  show call lf n_laws_FnExactForcedBy [.i m, .sl 0 (x.map e2), .sl 0 (y.map .i)] = _
  rw [call_k lf n_laws_FnExactForcedBy _ (F := F_laws_FnExactForcedBy) rfl rfl]
  have hz : (x.length : Int) ≤ 9223372036854775807 := by unfold Go.maxLen at hx; omega
  have S := c_szMarkS x 1048576 (by omega) (by omega) hz
  by_cases g : (1048576 : Int) < y.length
  · simp [F_laws_FnExactForcedBy, g]
  · by_cases h : (1048576 : Int) < x.length
    · simp [F_laws_FnExactForcedBy, S, g, h]
    · have hm : (x.length : Int) < 1099511627776 := by omega
      have hn : (y.length : Int) < 1099511627776 := by omega
      have n1 : ¬ ((1048576 : Int) - x.length < 0) := by omega
      have A := c_toMarkS x (by omega)
      have Q := c_eqMarkS_self x (by omega)
      have A2 := c_toIntS y (by omega)
      have Q2 := c_eqIntS_self y (by omega)
      have C1 := c_impl_ForcedBy m x y hm hn
      have C2 := c_spec_ForcedBy m x y hm hn
      simp (config := { maxSteps := 2000000 }) [F_laws_FnExactForcedBy, S, g, h, n1, A, Q, A2, Q2, C1, C2]
end
section
theorem mid_at {A B : List DV} {i : Nat} (h : A.length = i) (x : DV) : atN (A ++ x :: B) i = some x := by
  show (A ++ x :: B)[i]? = _
  rw [List.getElem?_append_right (by omega), h]; simp
theorem mid_set {A B : List DV} {i : Nat} (h : A.length = i) (x y : DV) : (A ++ x :: B).set i y = A ++ y :: B := by
  rw [List.set_append_right _ _ (by omega), h]; simp
theorem split_at {es : List DV} {i : Nat} (hi : i < es.length) : es.drop i = es[i] :: es.drop (i + 1) := List.drop_eq_getElem_cons hi
/-- the marks from k on -/
def mk1 (k : Int) (n : Nat) : List DV := (List.range n).map fun (j : Nat) => DV.i (k + (j : Int))
theorem mk1_len (k : Int) (n : Nat) : (mk1 k n).length = n := by simp [mk1]
theorem mk1_succ (k : Int) (n : Nat) : mk1 k (n + 1) = mk1 k n ++ [.i (k + n)] := by simp [mk1, List.range_succ]
def mk2 (k : Int) (n : Nat) : List DV := (List.range n).map fun (j : Nat) => DV.st [.i (k + 2 * (j : Int)), .i (k + 2 * (j : Int) + 1)]
theorem mk2_len (k : Int) (n : Nat) : (mk2 k n).length = n := by simp [mk2]
theorem mk2_succ (k : Int) (n : Nat) : mk2 k (n + 1) = mk2 k n ++ [.st [.i (k + 2 * n), .i (k + 2 * n + 1)]] := by simp [mk2, List.range_succ]
theorem mk1_map (k : Int) (n : Nat) : ∃ u : List Int, mk1 k n = u.map .i ∧ u.length = n := ⟨(List.range n).map fun (j : Nat) => k + (j : Int), by simp [mk1], by simp⟩
theorem mk2_map (k : Int) (n : Nat) : ∃ u : List T, mk2 k n = u.map e2 ∧ u.length = n := ⟨(List.range n).map fun (j : Nat) => (k + 2 * (j : Int), k + 2 * (j : Int) + 1), by simp [mk2, e2], by simp⟩
theorem tk_n {u : List DV} {n : Nat} (h : u.length = n) : List.take n u = u := List.take_of_length_le (by omega)
set_option maxHeartbeats 4000000 in
theorem c_markIntS (xs : List Int) (k : Int) (k0 : 0 ≤ k) (k1 : k ≤ 1000000000) (hl : xs.length ≤ 1048576) : call lf n_laws_markIntS [.fr 1 (xs.map .i), .i k] = some (.i (k + xs.length), [.fr 1 (mk1 k xs.length)]) := by
  rw [call_k lf n_laws_markIntS _ (F := F_laws_markIntS) rfl rfl]
  have L := loop_count (lf := lf) (L := F_laws_markIntS_L0) xs.length (fun i => ⟨[(0, .own 15 xs.length 0 xs.length), (1, .i (k + i)), (5, .i i)], [(15, mk1 k i ++ (xs.map .i).drop i)]⟩) (x := .exit 0) (R := ⟨[(0, .own 15 xs.length 0 xs.length), (1, .i (k + xs.length)), (5, .i xs.length)], [(15, mk1 k xs.length ++ (xs.map .i).drop xs.length)]⟩) (fun i hi => by
    have w1 : wr ((i : Int) + 1) = (i : Int) + 1 := wr_id (by omega) (by omega)
    have w2 : wr (k + i + 1) = k + (i + 1 : Nat) := by rw [wr_id (by omega) (by omega)]; omega
    have hi' : (i : Int) < xs.length := by omega
    have e := split_at (es := xs.map DV.i) (i := i) (by simpa using hi)
    rw [List.getElem_map] at e
    rw [mk1_succ, e]
    have hA := mk1_len k i
    have lB : (List.drop (i + 1) (xs.map DV.i)).length = xs.length - (i + 1) := by simp
    generalize xs[i] = x at *
    generalize List.drop (i + 1) (xs.map DV.i) = B at *
    generalize mk1 k i = A at *
    have q1 := mid_at (B := B) hA
    have q2 := mid_set (B := B) hA
    have q3 : ∀ x : DV, (A ++ x :: B).length = xs.length := fun x => by simp [hA, lB]; omega
    rw [show A ++ [DV.i (k + ↑i)] ++ B = A ++ DV.i (k + ↑i) :: B by simp]
    simp [F_laws_markIntS_L0, hi, hi', w1, w2, q1, q2, q3, -List.length_append, -List.length_cons]) (by
    have lm := mk1_len k xs.length
    simp [F_laws_markIntS_L0, lm]) (by simp)
  have z : mk1 k 0 ++ (xs.map DV.i).drop 0 = xs.map .i := by simp [mk1]
  rw [z] at L
  have zn : mk1 k xs.length ++ (xs.map DV.i).drop xs.length = mk1 k xs.length := by simp
  rw [zn] at L
  have L' : ex lf F_laws_markIntS_W0 ⟨[(0, .own 15 xs.length 0 xs.length), (1, .i k), (5, .i 0)], [(15, xs.map .i)]⟩ = some (.exit 0, ⟨[(0, .own 15 xs.length 0 xs.length), (1, .i (k + xs.length)), (5, .i xs.length)], [(15, mk1 k xs.length)]⟩) := by
    have := L
    simp only [Int.natCast_zero, Int.add_zero] at this
    exact this
  have lm := mk1_len k xs.length
  simp [F_laws_markIntS, L', lm]
set_option maxHeartbeats 4000000 in
theorem c_markMarkS (xs : List T) (k : Int) (k0 : 0 ≤ k) (k1 : k ≤ 1000000000) (hl : xs.length ≤ 1048576) : call lf n_laws_markMarkS [.fr 2 (xs.map e2), .i k] = some (.i (k + 2 * xs.length), [.fr 2 (mk2 k xs.length)]) := by
  rw [call_k lf n_laws_markMarkS _ (F := F_laws_markMarkS) rfl rfl]
  have L := loop_count (lf := lf) (L := F_laws_markMarkS_L0) xs.length (fun i => ⟨[(0, .own 23 xs.length 0 xs.length), (1, .i (k + 2 * i)), (5, .i i)], [(23, mk2 k i ++ (xs.map e2).drop i)]⟩) (x := .exit 0) (R := ⟨[(0, .own 23 xs.length 0 xs.length), (1, .i (k + 2 * xs.length)), (5, .i xs.length)], [(23, mk2 k xs.length ++ (xs.map e2).drop xs.length)]⟩) (fun i hi => by
    have w1 : wr ((i : Int) + 1) = (i : Int) + 1 := wr_id (by omega) (by omega)
    have w2 : wr (k + 2 * i + 1) = k + 2 * i + 1 := wr_id (by omega) (by omega)
    have w3 : wr (k + 2 * i + 1 + 1) = k + 2 * (i + 1 : Nat) := by rw [wr_id (by omega) (by omega)]; omega
    have hi' : (i : Int) < xs.length := by omega
    have e := split_at (es := xs.map e2) (i := i) (by simpa using hi)
    rw [List.getElem_map] at e
    rw [mk2_succ, e]
    have hA := mk2_len k i
    have lB : (List.drop (i + 1) (xs.map e2)).length = xs.length - (i + 1) := by simp
    generalize xs[i] = x at *
    generalize List.drop (i + 1) (xs.map e2) = B at *
    generalize mk2 k i = A at *
    have q1 := mid_at (B := B) hA
    have q2 := mid_set (B := B) hA
    have q3 : ∀ x : DV, (A ++ x :: B).length = xs.length := fun x => by simp [hA, lB]; omega
    rw [show A ++ [DV.st [DV.i (k + 2 * ↑i), DV.i (k + 2 * ↑i + 1)]] ++ B = A ++ DV.st [DV.i (k + 2 * ↑i), DV.i (k + 2 * ↑i + 1)] :: B by simp]
    have q4 : ∀ a b : DV, 1 ≤ [a, b].length := fun a b => by simp
    have q5 : ∀ a b : DV, 2 ≤ [a, b].length := fun a b => by simp
    simp [F_laws_markMarkS_L0, e2, hi, hi', w1, w2, w3, q1, q2, q3, q4, q5, -List.length_append, -List.length_cons]) (by
    have lm := mk2_len k xs.length
    simp [F_laws_markMarkS_L0, lm]) (by simp)
  have z : mk2 k 0 ++ (xs.map e2).drop 0 = xs.map e2 := by simp [mk2]
  rw [z] at L
  have zn : mk2 k xs.length ++ (xs.map e2).drop xs.length = mk2 k xs.length := by simp
  rw [zn] at L
  have L' : ex lf F_laws_markMarkS_W0 ⟨[(0, .own 23 xs.length 0 xs.length), (1, .i k), (5, .i 0)], [(23, xs.map e2)]⟩ = some (.exit 0, ⟨[(0, .own 23 xs.length 0 xs.length), (1, .i (k + 2 * xs.length)), (5, .i xs.length)], [(23, mk2 k xs.length)]⟩) := by
    have := L
    simp only [Int.natCast_zero, Int.mul_zero, Int.add_zero] at this
    exact this
  have lm := mk2_len k xs.length
  simp [F_laws_markMarkS, L', lm]
set_option maxHeartbeats 4000000 in
theorem c_heldIntS (n : Nat) (k : Int) (k0 : 0 ≤ k) (k1 : k ≤ 1000000000) (hl : n ≤ 1048576) : call lf n_laws_heldIntS [.sl 0 (mk1 k n), .i k] = some (.i (k + n), []) := by
  rw [call_k lf n_laws_heldIntS _ (F := F_laws_heldIntS) rfl rfl]
  have lm := mk1_len k n
  have A : ∀ i, i < n → atI (mk1 k n) (i : Int) = some (.i (k + i)) := fun i hi => by simp [atI, mk1, hi]
  generalize mk1 k n = es at *
  have L := loop_count (lf := lf) (L := F_laws_heldIntS_L0) n (fun i => ⟨[(0, .sl 0 es), (1, .i (k + i)), (5, .i i)], []⟩) (x := .exit 0) (R := ⟨[(0, .sl 0 es), (1, .i (k + n)), (5, .i n)], []⟩) (fun i hi => by
    have w1 : wr ((i : Int) + 1) = (i : Int) + 1 := wr_id (by omega) (by omega)
    have w2 : wr (k + i + 1) = k + (i + 1 : Nat) := by rw [wr_id (by omega) (by omega)]; omega
    have hi' : (i : Int) < n := by omega
    have q := A i hi
    simp [F_laws_heldIntS_L0, hi, hi', w1, w2, lm, q]) (by
    simp [F_laws_heldIntS_L0, lm]) (by simp)
  have L' : ex lf F_laws_heldIntS_W0 ⟨[(0, .sl 0 es), (1, .i k), (5, .i 0)], []⟩ = some (.exit 0, ⟨[(0, .sl 0 es), (1, .i (k + n)), (5, .i n)], []⟩) := by
    have := L
    simp only [Int.natCast_zero, Int.add_zero] at this
    exact this
  simp [F_laws_heldIntS, L']
end
section
set_option maxHeartbeats 4000000 in
theorem law_FnExactLeastProofs (m : Int) (_ : -9223372036854775808 ≤ m ∧ m ≤ 9223372036854775807) (x : List (Int × Int)) (hx : x.length ≤ Go.maxLen) (s : Int) (_ : -9223372036854775808 ≤ s ∧ s ≤ 9223372036854775807) : call lf n_laws_FnExactLeastProofs [.i m, rs2 x, .i s] = some (.b true, []) := by
  show call lf n_laws_FnExactLeastProofs [.i m, .sl 0 (x.map e2), .i s] = _
  rw [call_k lf n_laws_FnExactLeastProofs _ (F := F_laws_FnExactLeastProofs) rfl rfl]
  have hz : (x.length : Int) ≤ 9223372036854775807 := by unfold Go.maxLen at hx; omega
  have S := c_szMarkS x 1048576 (by omega) (by omega) hz
  by_cases h : (1048576 : Int) < x.length
  · simp [F_laws_FnExactLeastProofs, S, h]
  · have hm : (x.length : Int) < 1099511627776 := by omega
    have n1 : ¬ ((1048576 : Int) - x.length < 0) := by omega
    have A := c_toMarkS x (by omega)
    have Q := c_eqMarkS_self x (by omega)
    have C1 := c_impl_LeastProofs m x s hm
    have C2 := c_spec_LeastProofs m x s hm
    have ll : (lpOf m x s).length ≤ 32 := by
      unfold lpOf
      split
      · rename_i hk
        rw [Bool.and_eq_true] at hk
        obtain ⟨h1, _, _⟩ := tmOk_iff.1 hk.1
        obtain ⟨p1, p2, p3⟩ := pow5 h1.1 h1.2
        exact Nat.le_trans (sel_len _ _) p2
      · simp
    generalize lpOf m x s = w at *
    have Q2 := c_eqIntS_self w (by omega)
    have M1 := c_markMarkS x 1 (by omega) (by omega) (by omega)
    have M2 := c_markIntS w 1 (by omega) (by omega) (by omega)
    have H := c_heldIntS w.length 1 (by omega) (by omega) (by omega)
    have lb1 : x.length ≤ bound := by unfold bound; omega
    have lb2 : w.length ≤ bound := by unfold bound; omega
    obtain ⟨u, hu, lu⟩ := mk1_map 1 w.length
    obtain ⟨v, hv, lv⟩ := mk2_map 1 x.length
    rw [hu] at M2 H
    rw [hv] at M1
    have l1 : List.take w.length (u.map DV.i) = u.map DV.i := tk_n (by simp [lu])
    have l2 : List.take x.length (v.map e2) = v.map e2 := tk_n (by simp [lv])
    have n2 : ¬ ((1 : Int) + 2 * x.length < 0) := by omega
    have n3 : ¬ ((1 : Int) + w.length < 0) := by omega
    simp (config := { maxSteps := 2000000 }) [F_laws_FnExactLeastProofs, S, h, n1, n2, n3, A, Q, Q2, C1, C2, M1, M2, H, l1, l2, lu, lv, lb1, lb2]
end
end Zz
