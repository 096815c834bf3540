/- What the functions answer, as equations: E18. No conditions. -/
import Derived.Test.YtjallbfleicfnabDoorE17
set_option linter.unusedSectionVars false
set_option linter.unusedVariables false
set_option linter.unusedSimpArgs false
namespace Zz
open Go.Lg Md
set_option linter.unusedSimpArgs false
set_option linter.unusedVariables false
attribute [local simp] oldO_some oa_nil oa_i oa_y oa_b oa_s oa_st oa_sl oa_own oa_oad oa_nl al_nil al_cons al_i al_y al_b al_s al_st al_sl nxF_some nxF_none rf_nil rf_gen rf_gate hk_newnil hk_make hk_alloc hk_box hk_build hk_bslice hk_call hk_store hk_app cl_nil cl_cons ai_nil ai_cons il_i il_y il_b il_s il_st il_sl il_own il_adr il_oad il_ref il_fr il_tup il_nil il_np il_und il_dead oi_e oi_i oi_y oi_b oi_s oi_st oi_sl oi_own oi_adr oi_oad oi_ref oi_fr oi_tup oi_nil oi_np oi_und oi_dead as_nil as_cons ao_nil ao_cons av_i av_y av_b av_s av_st av_sl av_own av_adr av_oad av_ref av_fr av_tup av_nil av_np av_und av_dead pro_cons ghK_some ks_promote ks_rename ren_own dropO adoptP newP wholeP cutP allOldL ex_skip ex_ret ex_exit ks_region ks_seq ks_cond ks_block seqK_n seqK_e seqK_r regK_some condK_t condK_f blkK_n blkK_r blkK_e endK_n endK_r rr_false rr_true rd_free mo_nil mo_cons drK_some drK_none nxW_some nxW_none rw_nil rw_gen rw_gate ak_newnil ak_make ak_alloc ak_box ak_build ak_bslice ak_call ak_store ak_app iw_mm iw_idxp ef_mmx ef_mmn ef_idxp nxD_some nxD_none ov_i ov_y ov_b ov_s ov_st ov_sl ov_own ov_oad ov_adr ov_nil ov_np ov_und ov_dead ov_tup oldN_some oldN_nil oldN_none so_none so_i so_y so_b so_s so_st so_sl so_adr so_nil so_np so_und so_dead anyM_nil anyM_t anyM_c so_own so_oad rd_nil rd_gen rd_mv rd_gate iw_mv iw_newnil iw_pick iw_bin iw_eqb iw_eqs iw_un iw_len iw_lens iw_chk iw_fld iw_fldv iw_idxa iw_idx iw_load iw_store iw_slice iw_slices iw_make iw_alloc iw_box iw_build iw_bslice iw_app iw_b2i iw_i2b iw_i2i iw_same iw_b2s iw_s2b iw_ext iw_call nm_i nm_y nm_b nm_s nm_st nm_sl nm_own nm_oad nm_adr nm_nil nm_np nm_und nm_dead nm_tup rl_nil rl_gate rl_mv rl_gen opv_t opv_c nx_some nx_none gate_tt gate_tf gate_ft gate_ff gate_u fr_ap em_nil em_i em_y em_b em_s em_st em_sl em_own em_adr em_oad em_ref em_nl em_np em_und em_dead em_tup0 em_tup_i em_tup_b em_tup_s em_tup_sl em_tup_st em_tup_np em_tup_own em_tup_oad mm_i mm_y mm_b mm_s mm_st mm_sl mm_own mm_oad mm_adr mm_nil mm_np mm_und mm_dead ef_mv ef_newnil ef_pickt ef_pickf ef_bin ef_eqb ef_eqs ef_un ef_lens ef_len_sl ef_len_own ef_len_nil ef_chk_adr ef_chk_oad ef_fld_adr ef_fld_oad ef_fldv idxR_some ef_idxa_sl ef_idxa_own ef_idx ef_load_adr_st ef_load_adr_i ef_load_adr_y ef_load_adr_b ef_load_adr_s ef_load_adr_sl atN_nil atN_zero atN_succ ef_load_oad ef_store ef_slice ef_slices ef_make ef_alloc ef_box ef_build ef_bslice ef_app_own ef_app_nil ef_b2i ef_i2b ef_i2i ef_same ef_ext ret1 ret2_some calL_some ef_call retC_i retC_y retC_b retC_s retC_st retC_sl retC_np retC_fr retC_ref retC_tup rk_nil rk_i rk_y rk_b rk_s rk_st rk_sl rk_own rk_oad rk_nl ok_nil ok_i ok_y ok_b ok_s ok_st ok_sl ok_own ok_oad ok_nl lo_nil lo_i lo_y lo_b lo_s lo_st lo_sl lo_own lo_oad lo_nl pr_nil pr_i pr_y pr_b pr_s pr_st pr_sl pr_own pr_nl pr_oad nr_i nr_y nr_b nr_s nr_st nr_sl nr_fr nr_np nr_tup ng_i ng_b ng_s ng_fr ng_nil resV effP_eff binD bi_add bi_sub bi_mul bi_quo bi_rem bi_eql bi_neq bi_lss bi_leq bi_gtr bi_geq bi_shl bi_shr bi_and bi_or bi_xor bi_andNot binY binS unD look put putD LS.get LS.drop killE sweep lookO putO dropO enter leave giveBackL giveBack outs lendArgs lendArg newOuts takeIn takeInL lendL DV.lend adoptL DV.adopt elems apartKs part DV.cells unpart settle settleL over mkId szId fillP fillE tk_e2 tk_i tk_y lt_e2 lt_i lt_y lend_rep al_e2 al_is al_ys al_rep al_app lend_app adopt_app new_app lend_e2 lend_i lend_y adopt_e2 adopt_i adopt_y new_e2 new_i allNewL DV.allNew bounds sliceD sliceS em_w em_q em_r em_fn em_tup_w em_tup_q em_tup_r mm_w mm_q mm_r mm_fn ef_load_adr_w ef_load_adr_q ef_load_adr_r retC_w retC_q retC_r rk_w rk_q rk_r rk_fn ok_w ok_q ok_r ok_fn lo_w lo_q lo_r lo_fn pr_w pr_q pr_r pr_fn nr_w nr_q nr_r ng_w ng_q ng_r oa_w oa_q oa_r oa_fn al_w al_q al_r al_fn ov_w ov_q ov_r ov_fn so_w so_q so_r so_fn il_w il_q il_r il_fn oi_w oi_q oi_r oi_fn av_w av_q av_r av_fn nm_w nm_q nm_r nm_fn ef_i2r ef_r2s ef_mkfn ef_idxp_adr ef_calld capsOk DV.cell List.all_cons List.all_nil rk_own_t lo_own_t lk_f lk_t pr_own_t mutB ak_calld hk_calld iw_calld iw_mkfn iw_i2r iw_r2s bw_and bw_or bw_xor bw_andNot bw_eql bw_neq sw_shl sw_shr sq_shl gEnv_nil rk_adr ok_adr lo_adr pr_adr oa_adr capL capArg DV.cap ak_mkfn hk_mkfn
attribute [local congr] nxF_congr ghK_congr gate_congr nx_congr nxD_congr runL_congr runD_congr eff_congr calL_congr ret2_congr seqK_congr regK_congr condK_congr endK_congr drK_congr nxW_congr
attribute [local simp ↓] nxF_some rf_nil rf_gen rf_gate ks_promote ks_rename ghK_some gate_tt gate_tf gate_ft gate_ff gate_u nx_some nxD_some rl_nil rl_mv rl_gen rl_gate rd_nil rd_mv rd_gen rd_gate rd_free rr_false rr_true drK_some drK_none nxW_some rw_nil rw_gen rw_gate ks_region ks_seq ks_cond ks_block seqK_n seqK_e seqK_r regK_some condK_t condK_f blkK_n blkK_r endK_n endK_r calL_some ret2_some opv_t opv_c
attribute [-simp] DV.cells sliceD
attribute [local simp] cells_st cells_sl cells_i cells_y cells_b cells_s cells_w
theorem div_bI (a s : Nat) : (a : Int) / 2 ^ s % 2 = bI (a.testBit s) := by
  unfold bI
  rw [Nat.testBit_eq_decide_div_mod_eq]
  have : (a : Int) / 2 ^ s % 2 = ((a / 2 ^ s % 2 : Nat) : Int) := by simp
  rw [this]
  by_cases h : a / 2 ^ s % 2 = 1
  · simp [h]
  · have : a / 2 ^ s % 2 = 0 := by omega
    simp [this]
theorem c_impl_hasTest (so k : Nat) (hk : k ≤ 40) : call lf n_impl_hasTest [.i so, .i k] = some (.b (so.testBit k), []) := by
  rw [call_k lf n_impl_hasTest _ (F := F_impl_hasTest) rfl rfl]
  have ni : ¬ (k : Int) < 0 := by omega
  have e : andI (shrI (so : Int) (k : Int)) 1 = bI (so.testBit k) := by
    rw [bit_and, shr1 (by omega) (by omega), Int.toNat_natCast, div_bI]
  simp [F_impl_hasTest, ni, e, bI_eq1]
def tc (n i st so : Nat) : List DV := (told i st so).map .i ++ List.replicate (n - i) (.i 0)
theorem tc_len {n i : Nat} (st so : Nat) (h : i ≤ n) : (tc n i st so).length = n := by simp [tc, told_len]; omega
theorem tc_at {n i : Nat} (st so : Nat) (h : i < n) : ∃ r, (∀ v, (tc n i st so).set i v = (told i st so).map .i ++ v :: r) ∧ atN (tc n i st so) i = some (.i 0) ∧ (∀ v, ((told i st so).map DV.i ++ v :: r).length = n) ∧ (∀ v, atN ((told i st so).map DV.i ++ v :: r) i = some v) ∧ (∀ v u, ((told i st so).map DV.i ++ v :: r).set i u = (told i st so).map .i ++ u :: r) ∧ (told i st so).map DV.i ++ (.i (if so.testBit i then bI (st.testBit i) else -1)) :: r = tc n (i + 1) st so := by
  have tl := told_len i st so
  have hl : ((told i st so).map DV.i).length = i := by simp [tl]
  obtain ⟨j, rfl⟩ : ∃ j, n = i + 1 + j := ⟨n - (i + 1), by omega⟩
  have e1 : i + 1 + j - i = j + 1 := by omega
  have e2 : i + 1 + j - (i + 1) = j := by omega
  have sets : ∀ (v u : DV) (r : List DV), ((told i st so).map DV.i ++ v :: r).set i u = (told i st so).map .i ++ u :: r := fun v u r => by
    rw [List.set_append_right _ _ (by omega), hl]; simp
  refine ⟨List.replicate j (.i 0), fun v => ?_, ?_, fun v => ?_, fun v => ?_, fun v u => sets v u _, ?_⟩
  · unfold tc; rw [e1, List.replicate_succ]; exact sets _ v _
  · unfold tc; rw [e1, List.replicate_succ]
    show (_ ++ _)[i]? = _
    rw [List.getElem?_append_right (by omega), hl]; simp
  · simp [tl]; omega
  · show (_ ++ _)[i]? = _
    rw [List.getElem?_append_right (by omega), hl]; simp
  · unfold tc; rw [e2, told_succ]; simp
set_option maxHeartbeats 4000000 in
theorem c_impl_knownBy {m : Int} (h1 : 0 ≤ m) (h5 : m ≤ 5) (st so : Nat) : call lf n_impl_knownBy [.i m, .i st, .i so] = some (.fr 1 ((told m.toNat st so).map .i), []) := by
  obtain ⟨n, rfl⟩ := Int.eq_ofNat_of_zero_le h1
  have L := loop_count (lf := lf) (L := F_impl_knownBy_L0) n (fun i => ⟨[(1, .i st), (2, .i so), (7, .own 5128 n 0 n), (12, .i n), (13, .i i)], [(5128, tc n i st so)]⟩) (x := .exit 0) (R := ⟨[(1, .i st), (2, .i so), (7, .own 5128 n 0 n), (12, .i n), (13, .i n)], [(5128, tc n n st so)]⟩) (fun i hi => by
    have C1 := c_impl_hasTest so i (by omega)
    have C2 := c_impl_outcomeIn st i (by omega) (by omega)
    rw [Int.toNat_natCast, div_bI] at C2
    have w1 : wr ((i : Int) + 1) = i + 1 := wr_id (by omega) (by omega)
    have tl := tc_len st so (Nat.le_of_lt hi)
    obtain ⟨r, q1, q2, q3, q4, q5, q6⟩ := tc_at st so hi
    have hi' : (i : Int) < n := by omega
    cases hb : so.testBit i with
    | true =>
      rw [hb] at C1 q6
      simp only [if_true] at q6
      have q3' := q3 (.i (-1))
      simp only [← q6]
      simp [F_impl_knownBy_L0, hi, C1, C2, w1, tl, q1, q2, q3, q4, q5, -List.length_append, -List.length_cons, -List.length_map]
    | false =>
      rw [hb] at C1 q6
      simp only [Bool.false_eq_true, if_false] at q6
      simp only [← q6]
      simp [F_impl_knownBy_L0, hi, C1, C2, w1, tl, q1, q2, q3, q4, q5, -List.length_append, -List.length_cons, -List.length_map]) (by simp [F_impl_knownBy_L0]) (by simp)
  have t0 : tc n 0 st so = List.replicate n (.i 0) := by simp [tc, told]
  have tn : tc n n st so = (told n st so).map .i := by simp [tc]
  rw [tn] at L
  have L' : ex lf F_impl_knownBy_W0 ⟨[(1, .i st), (2, .i so), (7, .own 5128 n 0 n), (12, .i n), (13, .i 0)], [(5128, List.replicate n (.i 0))]⟩ = some (.exit 0, ⟨[(1, .i st), (2, .i so), (7, .own 5128 n 0 n), (12, .i n), (13, .i n)], [(5128, (told n st so).map .i)]⟩) := by rw [← t0]; exact L
  have lb : (n : Int) ≤ (bound : Int) := by unfold bound; omega
  have tl := told_len n st so
  rw [call_k lf n_impl_knownBy _ (F := F_impl_knownBy) rfl rfl]
  simp [F_impl_knownBy, L', lb, tl]
theorem c_impl_ProofOk (m : Int) (ts : List T) (s o : Int) (hb : (ts.length : Int) < 1099511627776) : call lf n_impl_ProofOk [.i m, .sl 0 (ts.map e2), .i s, .i o] = some (.b (pfOf m ts s o), []) := by
  rw [call_k lf n_impl_ProofOk _ (F := F_impl_ProofOk) rfl rfl]
  have C1 := c_impl_TermOk m ts hb
  have C2 := c_impl_StateOk m s
  have C3 := c_impl_StateOk m o
  unfold pfOf
  cases h1 : tmOk m ts with
  | false => rw [h1] at C1; simp [F_impl_ProofOk, C1]
  | true =>
    rw [h1] at C1
    cases h2 : stOk m s with
    | false => rw [h2] at C2; simp [F_impl_ProofOk, C1, C2]
    | true =>
      rw [h2] at C2
      cases h3 : stOk m o with
      | false => rw [h3] at C3; simp [F_impl_ProofOk, C1, C2, C3]
      | true =>
        rw [h3] at C3
        obtain ⟨s0, s1⟩ := st32 h2
        obtain ⟨o0, o1⟩ := st32 h3
        obtain ⟨h4, _, _⟩ := tmOk_iff.1 h1
        have C5 := c_impl_knownBy (m := m) (by omega) h4.2 s.toNat o.toNat
        rw [Int.toNat_of_nonneg s0, Int.toNat_of_nonneg o0] at C5
        have tl := told_len m.toNat s.toNat o.toNat
        have tk := told_ok h4.1 h4.2 s.toNat o.toNat
        have C6 := c_impl_ForcedBy m ts (told m.toNat s.toNat o.toNat) hb (by rw [tl]; omega)
        have e : fbOf m ts (told m.toNat s.toNat o.toNat) = foT m ts (told m.toNat s.toNat o.toNat) := by unfold fbOf; rw [h1, tk]; rfl
        rw [e, h1, tk] at C6
        have t1 : List.take m.toNat ((told m.toNat s.toNat o.toNat).map DV.i) = (told m.toNat s.toNat o.toNat).map .i := List.take_of_length_le (by simp [tl])
        simp at C6
        simp [F_impl_ProofOk, C1, C2, C3, C5, C6, prf, tl, t1]
end Zz
