/- What the functions answer, as equations: L3d. No conditions. -/
import Derived.Test.YtjallbfleicfnacDoorE23
set_option linter.unusedSectionVars false
set_option linter.unusedVariables false
set_option linter.unusedSimpArgs false
namespace Zz
open Go.Lg Md
set_option linter.unusedSimpArgs false
set_option linter.unusedVariables false
attribute [local simp] oldO_some oa_nil oa_i oa_y oa_b oa_s oa_st oa_sl oa_own oa_oad oa_nl al_nil al_cons al_i al_y al_b al_s al_st al_sl nxF_some nxF_none rf_nil rf_gen rf_gate hk_newnil hk_make hk_alloc hk_box hk_build hk_bslice hk_call hk_store hk_app cl_nil cl_cons ai_nil ai_cons il_i il_y il_b il_s il_st il_sl il_own il_adr il_oad il_ref il_fr il_tup il_nil il_np il_und il_dead oi_e oi_i oi_y oi_b oi_s oi_st oi_sl oi_own oi_adr oi_oad oi_ref oi_fr oi_tup oi_nil oi_np oi_und oi_dead as_nil as_cons ao_nil ao_cons av_i av_y av_b av_s av_st av_sl av_own av_adr av_oad av_ref av_fr av_tup av_nil av_np av_und av_dead pro_cons ghK_some ks_promote ks_rename ren_own dropO adoptP newP wholeP cutP allOldL ex_skip ex_ret ex_exit ks_region ks_seq ks_cond ks_block seqK_n seqK_e seqK_r regK_some condK_t condK_f blkK_n blkK_r blkK_e endK_n endK_r rr_false rr_true rd_free mo_nil mo_cons drK_some drK_none nxW_some nxW_none rw_nil rw_gen rw_gate ak_newnil ak_make ak_alloc ak_box ak_build ak_bslice ak_call ak_store ak_app iw_mm iw_idxp ef_mmx ef_mmn ef_idxp nxD_some nxD_none ov_i ov_y ov_b ov_s ov_st ov_sl ov_own ov_oad ov_adr ov_nil ov_np ov_und ov_dead ov_tup oldN_some oldN_nil oldN_none so_none so_i so_y so_b so_s so_st so_sl so_adr so_nil so_np so_und so_dead anyM_nil anyM_t anyM_c so_own so_oad rd_nil rd_gen rd_mv rd_gate iw_mv iw_newnil iw_pick iw_bin iw_eqb iw_eqs iw_un iw_len iw_lens iw_chk iw_fld iw_fldv iw_idxa iw_idx iw_load iw_store iw_slice iw_slices iw_make iw_alloc iw_box iw_build iw_bslice iw_app iw_b2i iw_i2b iw_i2i iw_same iw_b2s iw_s2b iw_ext iw_call nm_i nm_y nm_b nm_s nm_st nm_sl nm_own nm_oad nm_adr nm_nil nm_np nm_und nm_dead nm_tup rl_nil rl_gate rl_mv rl_gen opv_t opv_c nx_some nx_none gate_tt gate_tf gate_ft gate_ff gate_u fr_ap em_nil em_i em_y em_b em_s em_st em_sl em_own em_adr em_oad em_ref em_nl em_np em_und em_dead em_tup0 em_tup_i em_tup_b em_tup_s em_tup_sl em_tup_st em_tup_np em_tup_own em_tup_oad mm_i mm_y mm_b mm_s mm_st mm_sl mm_own mm_oad mm_adr mm_nil mm_np mm_und mm_dead ef_mv ef_newnil ef_pickt ef_pickf ef_bin ef_eqb ef_eqs ef_un ef_lens ef_len_sl ef_len_own ef_len_nil ef_chk_adr ef_chk_oad ef_fld_adr ef_fld_oad ef_fldv idxR_some ef_idxa_sl ef_idxa_own ef_idx ef_load_adr_st ef_load_adr_i ef_load_adr_y ef_load_adr_b ef_load_adr_s ef_load_adr_sl atN_nil atN_zero atN_succ ef_load_oad ef_store ef_slice ef_slices ef_make ef_alloc ef_box ef_build ef_bslice ef_app_own ef_app_nil ef_b2i ef_i2b ef_i2i ef_same ef_ext ret1 ret2_some calL_some ef_call retC_i retC_y retC_b retC_s retC_st retC_sl retC_np retC_fr retC_ref retC_tup rk_nil rk_i rk_y rk_b rk_s rk_st rk_sl rk_own rk_oad rk_nl ok_nil ok_i ok_y ok_b ok_s ok_st ok_sl ok_own ok_oad ok_nl lo_nil lo_i lo_y lo_b lo_s lo_st lo_sl lo_own lo_oad lo_nl pr_nil pr_i pr_y pr_b pr_s pr_st pr_sl pr_own pr_nl pr_oad nr_i nr_y nr_b nr_s nr_st nr_sl nr_fr nr_np nr_tup ng_i ng_b ng_s ng_fr ng_nil resV effP_eff binD bi_add bi_sub bi_mul bi_quo bi_rem bi_eql bi_neq bi_lss bi_leq bi_gtr bi_geq bi_shl bi_shr bi_and bi_or bi_xor bi_andNot binY binS unD look put putD LS.get LS.drop killE sweep lookO putO dropO enter leave giveBackL giveBack outs lendArgs lendArg newOuts takeIn takeInL lendL DV.lend adoptL DV.adopt elems apartKs part DV.cells unpart settle settleL over mkId szId fillP fillE tk_e2 tk_i tk_y lt_e2 lt_i lt_y lend_rep al_e2 al_is al_ys al_rep al_app lend_app adopt_app new_app lend_e2 lend_i lend_y adopt_e2 adopt_i adopt_y new_e2 new_i allNewL DV.allNew bounds sliceD sliceS em_w em_q em_r em_fn em_tup_w em_tup_q em_tup_r mm_w mm_q mm_r mm_fn ef_load_adr_w ef_load_adr_q ef_load_adr_r retC_w retC_q retC_r rk_w rk_q rk_r rk_fn ok_w ok_q ok_r ok_fn lo_w lo_q lo_r lo_fn pr_w pr_q pr_r pr_fn nr_w nr_q nr_r ng_w ng_q ng_r oa_w oa_q oa_r oa_fn al_w al_q al_r al_fn ov_w ov_q ov_r ov_fn so_w so_q so_r so_fn il_w il_q il_r il_fn oi_w oi_q oi_r oi_fn av_w av_q av_r av_fn nm_w nm_q nm_r nm_fn ef_i2r ef_r2s ef_mkfn ef_idxp_adr ef_calld capsOk DV.cell List.all_cons List.all_nil rk_own_t lo_own_t lk_f lk_t pr_own_t mutB ak_calld hk_calld iw_calld iw_mkfn iw_i2r iw_r2s bw_and bw_or bw_xor bw_andNot bw_eql bw_neq sw_shl sw_shr sq_shl gEnv_nil rk_adr ok_adr lo_adr pr_adr oa_adr capL capArg DV.cap ak_mkfn hk_mkfn
attribute [local congr] nxF_congr ghK_congr gate_congr nx_congr nxD_congr runL_congr runD_congr eff_congr calL_congr ret2_congr seqK_congr regK_congr condK_congr endK_congr drK_congr nxW_congr
attribute [local simp ↓] nxF_some rf_nil rf_gen rf_gate ks_promote ks_rename ghK_some gate_tt gate_tf gate_ft gate_ff gate_u nx_some nxD_some rl_nil rl_mv rl_gen rl_gate rd_nil rd_mv rd_gen rd_gate rd_free rr_false rr_true drK_some drK_none nxW_some rw_nil rw_gen rw_gate ks_region ks_seq ks_cond ks_block seqK_n seqK_e seqK_r regK_some condK_t condK_f blkK_n blkK_r endK_n endK_r calL_some ret2_some opv_t opv_c
attribute [-simp] DV.cells
attribute [local simp] cells_st cells_sl cells_i cells_y cells_b cells_s
/-- the tests that are known -/
def kn (ks : List Int) (k : Nat) : Bool := ks.getD k (-1) != -1
theorem kn_told {m : Int} {ks : List Int} (h : ksOk m ks = true) {s so : Nat} (hs : agB ks s = true) (hso : ∀ k, k < m.toNat → so.testBit k = kn ks k) : told m.toNat s so = ks := by
  obtain ⟨h1, h2, h3⟩ := ksOk_iff.1 h
  apply List.ext_getElem?
  intro k
  by_cases hk : k < m.toNat
  · obtain ⟨v, hv⟩ : ∃ v, ks[k]? = some v := ⟨ks[k]'(by omega), List.getElem?_eq_getElem (by omega)⟩
    have hkn : kn ks k = (v != -1) := by unfold kn; rw [List.getD_eq_getElem?_getD, hv]; rfl
    rw [hv]
    simp [told, hk, hso k hk, hkn]
    by_cases e : v = -1
    · simp [e]
    · simp [e]
      rcases agB_iff.1 hs k v hv with q | q
      · exact absurd q e
      · exact q.symm
  · rw [List.getElem?_eq_none (by rw [told_len]; omega), List.getElem?_eq_none (by omega)]
set_option maxHeartbeats 4000000 in
theorem fp_known (t : List T) (ks : List Int) (n : Int) (hl : ks.length ≤ 5) : ex lf F_laws_FnForcedProof_W0 ⟨[(3, .i ks.length), (4, .own 8210 t.length 0 t.length), (5, .own 8203 ks.length 0 ks.length), (6, .i n), (8, .i 0), (9, .i 0)], [(8203, ks.map .i), (8210, t.map e2)]⟩ =
    some (.exit 0, ⟨[(3, .i ks.length), (4, .own 8210 t.length 0 t.length), (5, .own 8203 ks.length 0 ks.length), (6, .i n), (8, .i (tabN (kn ks) ks.length)), (9, .i ks.length)], [(8203, ks.map .i), (8210, t.map e2)]⟩) := by
  refine loop_count ks.length (fun i => ⟨[(3, .i ks.length), (4, .own 8210 t.length 0 t.length), (5, .own 8203 ks.length 0 ks.length), (6, .i n), (8, .i (tabN (kn ks) i)), (9, .i i)], [(8203, ks.map .i), (8210, t.map e2)]⟩) (fun i hi => ?_) ?_ (by simp)
  · obtain ⟨q, q1, q2, q3, q4⟩ := at_k (ks := ks) (i := i) hi
    have hlt : ((i : Nat) : Int) < ks.length := by omega
    have q5 : atN (ks.map .i) i = some (.i q) := by
      show (ks.map DV.i)[i]? = _
      rw [List.getElem?_map, q1]; rfl
    have w1 : wr ((i : Int) + 1) = (i : Int) + 1 := wr_id (by omega) (by omega)
    have hkn : kn ks i = (q != -1) := by unfold kn; rw [List.getD_eq_getElem?_getD, q1]; rfl
    have o := tabN_or (P := kn ks) (k := i) (by omega)
    have sh := shl1 (k := (i : Int)) (by omega) (by omega)
    rw [Int.toNat_natCast] at sh
    have n2 : ¬ ((i : Int) < 0) := by omega
    have tn : tabN (kn ks) (i + 1) = tabN (kn ks) i ||| (if kn ks i then 2 ^ i else 0) := rfl
    rw [hkn] at tn
    have lm : (ks.map DV.i).length = ks.length := by simp
    generalize ks.map DV.i = es at *
    by_cases hq : q = -1
    · subst hq
      have e0 : ((-1 : Int) != -1) = false := rfl
      rw [e0] at tn
      simp only [Bool.false_eq_true, if_false, Nat.or_zero] at tn
      simp only [tn]
      simp [F_laws_FnForcedProof_L0, hi, hlt, q5, lm, w1]
    · have hq' : (q != -1) = true := bne_iff_ne.2 hq
      rw [hq'] at tn
      simp only [if_true] at tn
      simp only [tn]
      rw [← o]
      simp [F_laws_FnForcedProof_L0, hi, hlt, q5, lm, w1, hq', sh, n2]
  · simp [F_laws_FnForcedProof_L0]
set_option maxHeartbeats 4000000 in
theorem fp_at (t : List T) (ks : List Int) (so : Nat) (hl : 1 ≤ ks.length ∧ ks.length ≤ 5) (ht : t.length ≤ 12) (hk : ksOk ks.length ks = true) (hm : tmOk ks.length t = true) (hso : so < 2 ^ ks.length) (hb : ∀ k, k < ks.length → so.testBit k = kn ks k) :
    ex lf F_laws_FnForcedProof_W1 ⟨[(3, .i ks.length), (4, .own 8210 t.length 0 t.length), (5, .own 8203 ks.length 0 ks.length), (6, .i (foT ks.length t ks)), (8, .i so), (10, .i 0)], [(8203, ks.map .i), (8210, t.map e2)]⟩ =
    some (.exit 2, ⟨[(3, .i ks.length), (4, .own 8210 t.length 0 t.length), (5, .own 8203 ks.length 0 ks.length), (6, .i (foT ks.length t ks)), (8, .i so), (10, .i (2 ^ ks.length : Nat))], [(8203, ks.map .i), (8210, t.map e2)]⟩) := by
  have lb1 : t.length ≤ bound := by unfold bound; omega
  have lb2 : ks.length ≤ bound := by unfold bound; omega
  obtain ⟨p1, p2, p3⟩ := pow5 (m := ks.length) (by omega) (by omega)
  rw [Int.toNat_natCast] at p1 p2 p3
  have sh := shl1 (k := ks.length) (by omega) (by omega)
  rw [Int.toNat_natCast] at sh
  have n1 : ¬ ((ks.length : Int) < 0) := by omega
  refine loop_count (2 ^ ks.length) (fun i => ⟨[(3, .i ks.length), (4, .own 8210 t.length 0 t.length), (5, .own 8203 ks.length 0 ks.length), (6, .i (foT ks.length t ks)), (8, .i so), (10, .i i)], [(8203, ks.map .i), (8210, t.map e2)]⟩) (fun i hi => ?_) ?_ (by simp)
  · have hi' : (i : Int) < 2 ^ ks.length := by omega
    have w1 : wr ((i : Int) + 1) = i + 1 := wr_id (by omega) (by omega)
    have sok : ∀ y : Nat, y < 2 ^ ks.length → stOk ks.length y = true := fun y hy => stOk_iff.2 ⟨by omega, by omega, by rw [Int.toNat_natCast]; omega⟩
    have A := c_impl_AgreesOk ks.length ks i (by omega)
    have V := c_impl_ProofOk ks.length t i so (by omega)
    have ea : agOk ks.length ks i = agB ks i := by unfold agOk; rw [hk, sok i hi]; rfl
    have ev : pfOf ks.length t i so = prf ks.length t i so := by unfold pfOf; rw [hm, sok i hi, sok so hso]; rfl
    rw [ea] at A
    rw [ev] at V
    cases hg : agB ks i with
    | false =>
      rw [hg] at A
      simp [F_laws_FnForcedProof_L1, lb1, lb2, A, sh, n1, hi', w1]
    | true =>
      have hp : prf ks.length t i so = (foT ks.length t ks != -1) := by
        unfold prf
        rw [kn_told hk hg (fun k hk' => hb k (by simpa using hk'))]
      rw [hp] at V
      rw [hg] at A
      generalize foT ks.length t ks = y at *
      simp [F_laws_FnForcedProof_L1, lb1, lb2, A, V, sh, n1, hi', w1]
  · have : ¬ (((2 ^ ks.length : Nat) : Int) < 2 ^ ks.length) := by omega
    simp [F_laws_FnForcedProof_L1, sh, n1]
set_option maxHeartbeats 4000000 in
theorem law_FnForcedProof (x : List Nat) (_ : x.length ≤ Go.maxLen) (hb : ∀ y ∈ x, y < 256) : call lf n_laws_FnForcedProof [bys x] = some (.b true, []) := by
  show call lf n_laws_FnForcedProof [.sl 0 (x.map .y)] = _
  rw [call_k lf n_laws_FnForcedProof _ (F := F_laws_FnForcedProof) rfl rfl]
  by_cases hl : 1048576 < (x.length : Int)
  · simp (config := { maxSteps := 2000000 }) [F_laws_FnForcedProof, hl]
  · obtain ⟨m, t, ks, m1, t1, k0, k6, d⟩ := c_DrawForcedBy hb (by omega)
    have V1 := c_impl_ForcedBy m t ks (by omega) (by omega)
    have C1 := c_spec_TermOk m t (by omega)
    have C2 := c_spec_KnownOk m ks (by omega)
    have lb1 : t.length ≤ bound := by unfold bound; omega
    have lb2 : ks.length ≤ bound := by unfold bound; omega
    cases hk : (tmOk m t && ksOk m ks) with
    | false =>
      have e : fbOf m t ks = -1 := by unfold fbOf; rw [hk]; rfl
      rw [e, hk] at V1
      simp (config := { maxSteps := 2000000 }) [F_laws_FnForcedProof, hl, d, V1, c_alive]
    | true =>
      have e : fbOf m t ks = foT m t ks := by unfold fbOf; rw [hk]; rfl
      rw [e, hk] at V1
      rw [Bool.and_eq_true] at hk
      obtain ⟨h1, h2⟩ := hk
      rw [h1] at C1
      rw [h2] at C2
      obtain ⟨g1, g2, g3⟩ := ksOk_iff.1 h2
      subst g2
      have U := fp_known t ks (foT ks.length t ks) (by omega)
      have A := fp_at t ks (tabN (kn ks) ks.length) (by omega) t1 h2 h1 (tabN_lt _ _) (fun k hk => by rw [tabN_bit]; simp [hk])
      simp at A
      generalize foT ks.length t ks = y at *
      simp (config := { maxSteps := 2000000 }) [F_laws_FnForcedProof, hl, d, V1, C1, C2, U, A, c_alive]
end Zz
