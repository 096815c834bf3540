/- What the functions answer, as equations: L3c. No conditions. -/
import Derived.Test.YtjallbfleicfnabDoorE22
set_option linter.unusedSectionVars false
set_option linter.unusedVariables false
set_option linter.unusedSimpArgs false
namespace Zz
open Go.Lg Md
set_option linter.unusedSimpArgs false
set_option linter.unusedVariables false
attribute [local simp] oldO_some oa_nil oa_i oa_y oa_b oa_s oa_st oa_sl oa_own oa_oad oa_nl al_nil al_cons al_i al_y al_b al_s al_st al_sl nxF_some nxF_none rf_nil rf_gen rf_gate hk_newnil hk_make hk_alloc hk_box hk_build hk_bslice hk_call hk_store hk_app cl_nil cl_cons ai_nil ai_cons il_i il_y il_b il_s il_st il_sl il_own il_adr il_oad il_ref il_fr il_tup il_nil il_np il_und il_dead oi_e oi_i oi_y oi_b oi_s oi_st oi_sl oi_own oi_adr oi_oad oi_ref oi_fr oi_tup oi_nil oi_np oi_und oi_dead as_nil as_cons ao_nil ao_cons av_i av_y av_b av_s av_st av_sl av_own av_adr av_oad av_ref av_fr av_tup av_nil av_np av_und av_dead pro_cons ghK_some ks_promote ks_rename ren_own dropO adoptP newP wholeP cutP allOldL ex_skip ex_ret ex_exit ks_region ks_seq ks_cond ks_block seqK_n seqK_e seqK_r regK_some condK_t condK_f blkK_n blkK_r blkK_e endK_n endK_r rr_false rr_true rd_free mo_nil mo_cons drK_some drK_none nxW_some nxW_none rw_nil rw_gen rw_gate ak_newnil ak_make ak_alloc ak_box ak_build ak_bslice ak_call ak_store ak_app iw_mm iw_idxp ef_mmx ef_mmn ef_idxp nxD_some nxD_none ov_i ov_y ov_b ov_s ov_st ov_sl ov_own ov_oad ov_adr ov_nil ov_np ov_und ov_dead ov_tup oldN_some oldN_nil oldN_none so_none so_i so_y so_b so_s so_st so_sl so_adr so_nil so_np so_und so_dead anyM_nil anyM_t anyM_c so_own so_oad rd_nil rd_gen rd_mv rd_gate iw_mv iw_newnil iw_pick iw_bin iw_eqb iw_eqs iw_un iw_len iw_lens iw_chk iw_fld iw_fldv iw_idxa iw_idx iw_load iw_store iw_slice iw_slices iw_make iw_alloc iw_box iw_build iw_bslice iw_app iw_b2i iw_i2b iw_i2i iw_same iw_b2s iw_s2b iw_ext iw_call nm_i nm_y nm_b nm_s nm_st nm_sl nm_own nm_oad nm_adr nm_nil nm_np nm_und nm_dead nm_tup rl_nil rl_gate rl_mv rl_gen opv_t opv_c nx_some nx_none gate_tt gate_tf gate_ft gate_ff gate_u fr_ap em_nil em_i em_y em_b em_s em_st em_sl em_own em_adr em_oad em_ref em_nl em_np em_und em_dead em_tup0 em_tup_i em_tup_b em_tup_s em_tup_sl em_tup_st em_tup_np em_tup_own em_tup_oad mm_i mm_y mm_b mm_s mm_st mm_sl mm_own mm_oad mm_adr mm_nil mm_np mm_und mm_dead ef_mv ef_newnil ef_pickt ef_pickf ef_bin ef_eqb ef_eqs ef_un ef_lens ef_len_sl ef_len_own ef_len_nil ef_chk_adr ef_chk_oad ef_fld_adr ef_fld_oad ef_fldv idxR_some ef_idxa_sl ef_idxa_own ef_idx ef_load_adr_st ef_load_adr_i ef_load_adr_y ef_load_adr_b ef_load_adr_s ef_load_adr_sl atN_nil atN_zero atN_succ ef_load_oad ef_store ef_slice ef_slices ef_make ef_alloc ef_box ef_build ef_bslice ef_app_own ef_app_nil ef_b2i ef_i2b ef_i2i ef_same ef_ext ret1 ret2_some calL_some ef_call retC_i retC_y retC_b retC_s retC_st retC_sl retC_np retC_fr retC_ref retC_tup rk_nil rk_i rk_y rk_b rk_s rk_st rk_sl rk_own rk_oad rk_nl ok_nil ok_i ok_y ok_b ok_s ok_st ok_sl ok_own ok_oad ok_nl lo_nil lo_i lo_y lo_b lo_s lo_st lo_sl lo_own lo_oad lo_nl pr_nil pr_i pr_y pr_b pr_s pr_st pr_sl pr_own pr_nl pr_oad nr_i nr_y nr_b nr_s nr_st nr_sl nr_fr nr_np nr_tup ng_i ng_b ng_s ng_fr ng_nil resV effP_eff binD bi_add bi_sub bi_mul bi_quo bi_rem bi_eql bi_neq bi_lss bi_leq bi_gtr bi_geq bi_shl bi_shr bi_and bi_or bi_xor bi_andNot binY binS unD look put putD LS.get LS.drop killE sweep lookO putO dropO enter leave giveBackL giveBack outs lendArgs lendArg newOuts takeIn takeInL lendL DV.lend adoptL DV.adopt elems apartKs part DV.cells unpart settle settleL over mkId szId fillP fillE tk_e2 tk_i tk_y lt_e2 lt_i lt_y lend_rep al_e2 al_is al_ys al_rep al_app lend_app adopt_app new_app lend_e2 lend_i lend_y adopt_e2 adopt_i adopt_y new_e2 new_i allNewL DV.allNew bounds sliceD sliceS em_w em_q em_r em_fn em_tup_w em_tup_q em_tup_r mm_w mm_q mm_r mm_fn ef_load_adr_w ef_load_adr_q ef_load_adr_r retC_w retC_q retC_r rk_w rk_q rk_r rk_fn ok_w ok_q ok_r ok_fn lo_w lo_q lo_r lo_fn pr_w pr_q pr_r pr_fn nr_w nr_q nr_r ng_w ng_q ng_r oa_w oa_q oa_r oa_fn al_w al_q al_r al_fn ov_w ov_q ov_r ov_fn so_w so_q so_r so_fn il_w il_q il_r il_fn oi_w oi_q oi_r oi_fn av_w av_q av_r av_fn nm_w nm_q nm_r nm_fn ef_i2r ef_r2s ef_mkfn ef_idxp_adr ef_calld capsOk DV.cell List.all_cons List.all_nil rk_own_t lo_own_t lk_f lk_t pr_own_t mutB ak_calld hk_calld iw_calld iw_mkfn iw_i2r iw_r2s bw_and bw_or bw_xor bw_andNot bw_eql bw_neq sw_shl sw_shr sq_shl gEnv_nil rk_adr ok_adr lo_adr pr_adr oa_adr capL capArg DV.cap ak_mkfn hk_mkfn
attribute [local congr] nxF_congr ghK_congr gate_congr nx_congr nxD_congr runL_congr runD_congr eff_congr calL_congr ret2_congr seqK_congr regK_congr condK_congr endK_congr drK_congr nxW_congr
attribute [local simp ↓] nxF_some rf_nil rf_gen rf_gate ks_promote ks_rename ghK_some gate_tt gate_tf gate_ft gate_ff gate_u nx_some nxD_some rl_nil rl_mv rl_gen rl_gate rd_nil rd_mv rd_gen rd_gate rd_free rr_false rr_true drK_some drK_none nxW_some rw_nil rw_gen rw_gate ks_region ks_seq ks_cond ks_block seqK_n seqK_e seqK_r regK_some condK_t condK_f blkK_n blkK_r endK_n endK_r calL_some ret2_some opv_t opv_c
attribute [-simp] DV.cells
attribute [local simp] cells_st cells_sl cells_i cells_y cells_b cells_s
set_option maxHeartbeats 4000000 in
theorem fl_unk (t : List T) (ks : List Int) (n : Int) (hl : ks.length ≤ 5) : ex lf F_laws_FnForcedBy_W0 ⟨[(3, .i ks.length), (4, .own 11282 t.length 0 t.length), (5, .own 11275 ks.length 0 ks.length), (6, .i n), (10, .i 0), (11, .i 0)], [(11275, ks.map .i), (11282, t.map e2)]⟩ =
    some (.exit 0, ⟨[(3, .i ks.length), (4, .own 11282 t.length 0 t.length), (5, .own 11275 ks.length 0 ks.length), (6, .i n), (10, .i (unk ks)), (11, .i ks.length)], [(11275, ks.map .i), (11282, t.map e2)]⟩) := by
  have := loop_count (lf := lf) (L := F_laws_FnForcedBy_L0) ks.length (fun i => ⟨[(3, .i ks.length), (4, .own 11282 t.length 0 t.length), (5, .own 11275 ks.length 0 ks.length), (6, .i n), (10, .i (unk (ks.take i))), (11, .i i)], [(11275, ks.map .i), (11282, t.map e2)]⟩) (x := .exit 0) (R := ⟨[(3, .i ks.length), (4, .own 11282 t.length 0 t.length), (5, .own 11275 ks.length 0 ks.length), (6, .i n), (10, .i (unk (ks.take ks.length))), (11, .i ks.length)], [(11275, ks.map .i), (11282, t.map e2)]⟩) (fun i hi => ?_) ?_ (by simp)
  · rw [List.take_length] at this
    simp only [List.take_zero, unk] at this
    exact this
  · obtain ⟨q, q1, q2, q3, q4⟩ := at_k (ks := ks) (i := i) hi
    have hlt : ((i : Nat) : Int) < ks.length := by omega
    have q5 : atN (ks.map .i) i = some (.i q) := by
      show (ks.map DV.i)[i]? = _
      rw [List.getElem?_map, q1]; rfl
    have ub := unk_bound (ks.take i)
    have ul : (ks.take i).length ≤ 6 := by simp only [List.length_take]; omega
    have w1 : wr ((i : Int) + 1) = (i : Int) + 1 := wr_id (by omega) (by omega)
    have w2 : wr (unk (ks.take i) + 1) = unk (ks.take i) + 1 := wr_id (by omega) (by omega)
    have e := unk_take hi q1
    have lm : (ks.map DV.i).length = ks.length := by simp
    generalize ks.map DV.i = es at *
    generalize unk (ks.take i) = u at *
    generalize unk (ks.take (i + 1)) = v at *
    by_cases hq : q = -1
    · subst hq
      simp only [if_true] at e
      simp [F_laws_FnForcedBy_L0, hi, hlt, q5, lm, w1, w2, e]
    · have hq' : (q == -1) = false := beq_eq_false_iff_ne.2 hq
      simp only [if_neg hq, Int.add_zero] at e
      simp [F_laws_FnForcedBy_L0, hi, hlt, q5, lm, w1, hq', e]
  · simp [F_laws_FnForcedBy_L0]
set_option maxHeartbeats 4000000 in
theorem fl_side (t : List T) (r : List Int) (n u : Int) (hl : r.length ≤ 4) (ht : t.length ≤ 12) (hn : n ≠ -1) (C : ∀ c : Bool, call lf n_impl_ForcedBy [.i ((r.length + 1 : Nat) : Int), .sl 0 (t.map e2), .sl 0 (.i (bI c) :: r.map .i)] = some (.tup [.i n, .b true], [])) :
    ex lf F_laws_FnForcedBy_W1 ⟨[(3, .i ((r.length + 1 : Nat) : Int)), (4, .own 11282 t.length 0 t.length), (5, .own 11275 (r.length + 1) 0 (r.length + 1)), (6, .i n), (10, .i u), (12, .i 0)], [(11275, .i (-1) :: r.map .i), (11282, t.map e2)]⟩ =
    some (.exit 2, ⟨[(3, .i ((r.length + 1 : Nat) : Int)), (4, .own 11282 t.length 0 t.length), (5, .own 11275 (r.length + 1) 0 (r.length + 1)), (6, .i n), (10, .i u), (12, .i 2)], [(11275, .i (-1) :: r.map .i), (11282, t.map e2)]⟩) := by
  have hn' : (n != -1) = true := bne_iff_ne.2 hn
  have lb1 : t.length ≤ bound := by unfold bound; omega
  have lb2 : r.length + 1 ≤ bound := by unfold bound; omega
  have C0 := C false
  have C1 := C true
  simp [bI] at C0 C1
  refine loop_count 2 (fun i => ⟨[(3, .i ((r.length + 1 : Nat) : Int)), (4, .own 11282 t.length 0 t.length), (5, .own 11275 (r.length + 1) 0 (r.length + 1)), (6, .i n), (10, .i u), (12, .i i)], [(11275, .i (-1) :: r.map .i), (11282, t.map e2)]⟩) (fun i hi => ?_) ?_ (by simp)
  · have : i = 0 ∨ i = 1 := by omega
    rcases this with rfl | rfl
    · simp [F_laws_FnForcedBy_L1, hn', lb1, lb2, C0, show wr 1 = 1 from wr_id (by omega) (by omega)]
    · simp [F_laws_FnForcedBy_L1, hn', lb1, lb2, C1, show wr 2 = 2 from wr_id (by omega) (by omega)]
  · simp [F_laws_FnForcedBy_L1]
set_option maxHeartbeats 4000000 in
theorem fl_at (t : List T) (ks : List Int) (b : Bool) (u : Int) (hl : 1 ≤ ks.length ∧ ks.length ≤ 5) (ht : t.length ≤ 12) (hk : ksOk ks.length ks = true) (hm : tmOk ks.length t = true) (hf : foT ks.length t ks = bI b) :
    ex lf F_laws_FnForcedBy_W2 ⟨[(3, .i ks.length), (4, .own 11282 t.length 0 t.length), (5, .own 11275 ks.length 0 ks.length), (6, .i (bI b)), (10, .i u), (16, .i 0)], [(11275, ks.map .i), (11282, t.map e2)]⟩ =
    some (.exit 4, ⟨[(3, .i ks.length), (4, .own 11282 t.length 0 t.length), (5, .own 11275 ks.length 0 ks.length), (6, .i (bI b)), (10, .i u), (16, .i (2 ^ ks.length : Nat))], [(11275, ks.map .i), (11282, t.map e2)]⟩) := by
  have hn' : (bI b != -1) = true := by cases b <;> rfl
  have he : (bI b == 1) = b := bI_eq1 b
  have lb1 : t.length ≤ bound := by unfold bound; omega
  have lb2 : ks.length ≤ bound := by unfold bound; omega
  obtain ⟨p1, p2, p3⟩ := pow5 (m := ks.length) (by omega) (by omega)
  rw [Int.toNat_natCast] at p1 p2 p3
  have sh := shl1 (k := ks.length) (by omega) (by omega)
  rw [Int.toNat_natCast] at sh
  have n1 : ¬ ((ks.length : Int) < 0) := by omega
  refine loop_count (2 ^ ks.length) (fun i => ⟨[(3, .i ks.length), (4, .own 11282 t.length 0 t.length), (5, .own 11275 ks.length 0 ks.length), (6, .i (bI b)), (10, .i u), (16, .i i)], [(11275, ks.map .i), (11282, t.map e2)]⟩) (fun i hi => ?_) ?_ (by simp)
  · have hi' : (i : Int) < 2 ^ ks.length := by omega
    have w1 : wr ((i : Int) + 1) = i + 1 := wr_id (by omega) (by omega)
    have so : stOk ks.length i = true := stOk_iff.2 ⟨by omega, by omega, by rw [Int.toNat_natCast]; exact hi'⟩
    have A := c_impl_AgreesOk ks.length ks i (by omega)
    have V := c_impl_ValueOf ks.length t i (by omega)
    have ea : agOk ks.length ks i = agB ks i := by unfold agOk; rw [hk, so]; rfl
    have ev : vOf ks.length t i = tv t i := by unfold vOf; rw [hm, so]; rfl
    rw [ea] at A
    rw [ev] at V
    cases hg : agB ks i with
    | false =>
      rw [hg] at A
      simp [F_laws_FnForcedBy_L2, hn', lb1, lb2, A, sh, n1, hi', w1]
    | true =>
      have hv := fo_at hk hf (by rw [Int.toNat_natCast]; exact hi) hg
      rw [hg] at A
      rw [hv] at V
      simp [F_laws_FnForcedBy_L2, hn', lb1, lb2, A, V, sh, n1, hi', w1, he]
  · have : ¬ (((2 ^ ks.length : Nat) : Int) < 2 ^ ks.length) := by omega
    simp [F_laws_FnForcedBy_L2, sh, n1, this]
set_option maxHeartbeats 4000000 in
theorem law_FnForcedBy (x : List Nat) (_ : x.length ≤ Go.maxLen) (hb : ∀ y ∈ x, y < 256) : call lf n_laws_FnForcedBy [bys x] = some (.b true, []) := by
  show call lf n_laws_FnForcedBy [.sl 0 (x.map .y)] = _
  rw [call_k lf n_laws_FnForcedBy _ (F := F_laws_FnForcedBy) rfl rfl]
  by_cases hl : 1048576 < (x.length : Int)
  · simp (config := { maxSteps := 2000000 }) [F_laws_FnForcedBy, hl]
  · obtain ⟨m, t, ks, m1, t1, k0, k6, d⟩ := c_DrawForcedBy hb (by omega)
    have V1 := c_impl_ForcedBy m t ks (by omega) (by omega)
    have V2 := c_spec_ForcedBy m t ks (by omega) (by omega)
    have lb1 : t.length ≤ bound := by unfold bound; omega
    have lb2 : ks.length ≤ bound := by unfold bound; omega
    cases hk : (tmOk m t && ksOk m ks) with
    | false =>
      have e : fbOf m t ks = -1 := by unfold fbOf; rw [hk]; rfl
      rw [e, hk] at V1 V2
      simp (config := { maxSteps := 2000000 }) [F_laws_FnForcedBy, hl, d, V1, V2, c_alive]
    | true =>
      have e : fbOf m t ks = foT m t ks := by unfold fbOf; rw [hk]; rfl
      rw [e, hk] at V1 V2
      rw [Bool.and_eq_true] at hk
      obtain ⟨h1, h2⟩ := hk
      obtain ⟨g1, g2, g3⟩ := ksOk_iff.1 h2
      subst g2
      have U := fl_unk t ks (foT ks.length t ks) (by omega)
      obtain ⟨k, r, rfl⟩ : ∃ k r, ks = k :: r := by
        cases ks with
        | nil => simp at g1
        | cons k r => exact ⟨k, r, rfl⟩
      simp only [List.length_cons] at *
      have cl : ((r.length + 1 : Nat) : Int) = r.length + 1 := by omega
      have main : ∀ b, foT ((r.length + 1 : Nat) : Int) t (k :: r) = bI b → call lf n_laws_FnForcedBy [.sl 0 (x.map .y)] = some (.b true, []) := by
        intro b hf
        rw [hf] at V1 V2 U
        have A := fl_at t (k :: r) b (unk (k :: r)) (by simp; omega) t1 h2 h1 hf
        have nb : (bI b != -1) = true := by cases b <;> rfl
        have nb' : (bI b == -1) = false := by cases b <;> rfl
        have W1 : ∃ i, ex lf F_laws_FnForcedBy_W1 ⟨[(3, .i ((r.length + 1 : Nat) : Int)), (4, .own 11282 t.length 0 t.length), (5, .own 11275 (r.length + 1) 0 (r.length + 1)), (6, .i (bI b)), (10, .i (unk (k :: r))), (12, .i 0)], [(11275, .i k :: r.map .i), (11282, t.map e2)]⟩ =
            some (.exit 2, ⟨[(3, .i ((r.length + 1 : Nat) : Int)), (4, .own 11282 t.length 0 t.length), (5, .own 11275 (r.length + 1) 0 (r.length + 1)), (6, .i (bI b)), (10, .i (unk (k :: r))), (12, .i i)], [(11275, .i k :: r.map .i), (11282, t.map e2)]⟩) := by
          by_cases hk : k = -1
          · subst hk
            refine ⟨2, fl_side t r (bI b) (unk (-1 :: r)) (by omega) t1 (by cases b <;> simp [bI]) fun c => ?_⟩
            have h3 := ks_side h2 c
            have C := c_impl_ForcedBy ((r.length + 1 : Nat) : Int) t (bI c :: r) (by omega) (by simp; omega)
            have e : fbOf ((r.length + 1 : Nat) : Int) t (bI c :: r) = bI b := by unfold fbOf; rw [h1, h3, fo_side h2 hf c]; rfl
            rw [e, h1, h3] at C
            exact C
          · refine ⟨0, ?_⟩
            have hk' : (k == -1) = false := beq_eq_false_iff_ne.2 hk
            rw [w_laws_FnForcedBy_1]
            simp [F_laws_FnForcedBy_L1, hk']
        obtain ⟨i, W1⟩ := W1
        simp at V1 V2 A W1 U
        rw [call_k lf n_laws_FnForcedBy _ (F := F_laws_FnForcedBy) rfl rfl]
        by_cases up : 0 < unk (k :: r)
        · simp (config := { maxSteps := 2000000 }) [F_laws_FnForcedBy, hl, d, V1, V2, U, W1, A, up]
        · simp (config := { maxSteps := 2000000 }) [F_laws_FnForcedBy, hl, d, V1, V2, U, W1, A, up, nb]
      rcases fo_or (tv t) (agB (k :: r)) (2 ^ ((r.length + 1 : Nat) : Int).toNat) with h | h | h
      · rw [← call_k lf n_laws_FnForcedBy _ (F := F_laws_FnForcedBy) rfl rfl]; exact main true h
      · rw [← call_k lf n_laws_FnForcedBy _ (F := F_laws_FnForcedBy) rfl rfl]; exact main false h
      · have hf : foT ((r.length + 1 : Nat) : Int) t (k :: r) = -1 := h
        rw [hf] at V1 V2 U
        have up := unk_pos h2 hf
        have W1 : ex lf F_laws_FnForcedBy_W1 ⟨[(3, .i ((r.length + 1 : Nat) : Int)), (4, .own 11282 t.length 0 t.length), (5, .own 11275 (r.length + 1) 0 (r.length + 1)), (6, .i (-1)), (10, .i (unk (k :: r))), (12, .i 0)], [(11275, .i k :: r.map .i), (11282, t.map e2)]⟩ =
            some (.exit 2, ⟨[(3, .i ((r.length + 1 : Nat) : Int)), (4, .own 11282 t.length 0 t.length), (5, .own 11275 (r.length + 1) 0 (r.length + 1)), (6, .i (-1)), (10, .i (unk (k :: r))), (12, .i 0)], [(11275, .i k :: r.map .i), (11282, t.map e2)]⟩) := by
          by_cases hk : k = -1
          · subst hk
            rw [w_laws_FnForcedBy_1]
            simp [F_laws_FnForcedBy_L1]
          · have hk' : (k == -1) = false := beq_eq_false_iff_ne.2 hk
            rw [w_laws_FnForcedBy_1]
            simp [F_laws_FnForcedBy_L1, hk']
        have W2 : ex lf F_laws_FnForcedBy_W2 ⟨[(3, .i ((r.length + 1 : Nat) : Int)), (4, .own 11282 t.length 0 t.length), (5, .own 11275 (r.length + 1) 0 (r.length + 1)), (6, .i (-1)), (10, .i (unk (k :: r))), (16, .i 0)], [(11275, .i k :: r.map .i), (11282, t.map e2)]⟩ =
            some (.exit 4, ⟨[(3, .i ((r.length + 1 : Nat) : Int)), (4, .own 11282 t.length 0 t.length), (5, .own 11275 (r.length + 1) 0 (r.length + 1)), (6, .i (-1)), (10, .i (unk (k :: r))), (16, .i 0)], [(11275, .i k :: r.map .i), (11282, t.map e2)]⟩) := by
          have sh := shl1 (k := ((r.length + 1 : Nat) : Int)) (by omega) (by omega)
          have n1 : ¬ (((r.length : Int) + 1) < 0) := by omega
          have p0 := two_pow_pos (r.length + 1)
          rw [Int.toNat_natCast, cl] at sh
          have p1 : (0 : Int) < 2 ^ (r.length + 1) := by omega
          rw [w_laws_FnForcedBy_2]
          simp [F_laws_FnForcedBy_L2, sh, n1, p1]
        simp at V1 V2 W1 W2 U
        simp (config := { maxSteps := 2000000 }) [F_laws_FnForcedBy, hl, d, V1, V2, U, W1, W2, up]
end Zz
