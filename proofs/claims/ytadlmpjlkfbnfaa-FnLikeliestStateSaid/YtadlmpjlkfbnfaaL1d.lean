/- What the functions answer, as equations: L1d. No conditions. -/
import Derived.Test.YtadlmpjlkfbnfaaL1c
namespace Zz
open Go.Lg Md
set_option linter.unusedSimpArgs false
set_option linter.unusedVariables false
attribute [local simp] ex_skip ex_ret ex_exit ks_region ks_seq ks_cond ks_block seqK_n seqK_e seqK_r regK_some condK_t condK_f blkK_n blkK_r blkK_e endK_n endK_r ex_ghost runR rd_false nxD_some nxD_none ov_i ov_y ov_b ov_s ov_st ov_sl ov_own ov_oad ov_adr ov_nil ov_np ov_und ov_dead ov_tup oldN_some oldN_nil oldN_none so_none so_i so_y so_b so_s so_st so_sl so_adr so_nil so_np so_und so_dead anyM_nil anyM_t anyM_c so_own so_oad rd_nil rd_gen rd_mv rd_gate iw_mv iw_newnil iw_pick iw_bin iw_eqb iw_eqs iw_un iw_len iw_lens iw_chk iw_fld iw_fldv iw_idxa iw_idx iw_load iw_store iw_slice iw_slices iw_make iw_alloc iw_box iw_build iw_bslice iw_app iw_b2i iw_i2b iw_i2i iw_same iw_b2s iw_s2b iw_ext iw_call nm_i nm_y nm_b nm_s nm_st nm_sl nm_own nm_oad nm_adr nm_nil nm_np nm_und nm_dead nm_tup rl_nil rl_gate rl_mv rl_gen opv_t opv_c nx_some nx_none gate_tt gate_tf gate_ft gate_ff gate_u fr_ap em_nil em_i em_y em_b em_s em_st em_sl em_own em_adr em_oad em_ref em_nl em_np em_und em_dead em_tup0 em_tup_i em_tup_b em_tup_s em_tup_sl em_tup_st em_tup_np em_tup_own em_tup_oad mm_i mm_y mm_b mm_s mm_st mm_sl mm_own mm_oad mm_adr mm_nil mm_np mm_und mm_dead ef_mv ef_newnil ef_pickt ef_pickf ef_bin ef_eqb ef_eqs ef_un ef_lens ef_len_sl ef_len_own ef_len_nil ef_chk_adr ef_chk_oad ef_fld_adr ef_fld_oad ef_fldv idxR_some ef_idxa_sl ef_idxa_own ef_idx ef_load_adr_st ef_load_adr_i ef_load_adr_y ef_load_adr_b ef_load_adr_s ef_load_adr_sl atN_nil atN_zero atN_succ ef_load_oad ef_store ef_slice ef_slices ef_make ef_alloc ef_box ef_build ef_bslice ef_app_own ef_app_nil ef_b2i ef_i2b ef_i2i ef_same ef_ext ret1 ret2_some calL_some ef_call retC_i retC_y retC_b retC_s retC_st retC_sl retC_np retC_fr retC_ref retC_tup rk_nil rk_i rk_y rk_b rk_s rk_st rk_sl rk_own rk_oad rk_nl ok_nil ok_i ok_y ok_b ok_s ok_st ok_sl ok_own ok_oad ok_nl lo_nil lo_i lo_y lo_b lo_s lo_st lo_sl lo_own lo_oad lo_nl pr_nil pr_i pr_y pr_b pr_s pr_st pr_sl pr_own pr_nl pr_oad nr_i nr_y nr_b nr_s nr_st nr_sl nr_fr nr_np nr_tup ng_i ng_b ng_s ng_fr ng_nil resV effP_eff binD bi_add bi_sub bi_mul bi_quo bi_rem bi_eql bi_neq bi_lss bi_leq bi_gtr bi_geq bi_shl bi_shr bi_and bi_or bi_xor bi_andNot binY binS unD look put putD LS.get LS.drop killE sweep lookO putO dropO enter leave giveBackL giveBack outs lendArgs lendArg newOuts takeIn takeInL lendL DV.lend adoptL DV.adopt elems apartKs part DV.cells unpart settle settleL over mkId szId fillP fillE tk_e2 tk_i tk_y lt_e2 lt_i lt_y lend_rep lend_app adopt_app new_app lend_e2 lend_i lend_y adopt_e2 adopt_i adopt_y new_e2 new_i allNewL DV.allNew bounds sliceD sliceS
attribute [local congr] gate_congr nx_congr nxD_congr runL_congr runD_congr eff_congr calL_congr ret2_congr seqK_congr regK_congr condK_congr endK_congr
attribute [local simp ↓] gate_tt gate_tf gate_ft gate_ff gate_u nx_some nxD_some rl_nil rl_mv rl_gen rl_gate rd_nil rd_mv rd_gen rd_gate rd_false ks_region ks_seq ks_cond ks_block seqK_n seqK_e seqK_r regK_some condK_t condK_f blkK_n blkK_r endK_n endK_r calL_some ret2_some opv_t opv_c




theorem pref_bit : ∀ (ts : List T) (i : Nat) (t : T), ts[i]? = some t → ((pref ts : Nat) : Int) / 2 ^ i % 2 = if 2 * t.2 > 6 then 1 else 0
  | [], i, t, h => by simp at h
  | u :: r, 0, t, h => by
    simp only [List.getElem?_cons_zero, Option.some.injEq] at h
    subst h
    simp only [pref, Int.pow_zero, Int.ediv_one]
    split <;> omega
  | u :: r, i + 1, t, h => by
    simp only [List.getElem?_cons_succ] at h
    have ih := pref_bit r i t h
    rw [← ih, Int.pow_succ, Int.mul_comm (2 ^ i) 2, ← Int.ediv_ediv_of_nonneg (by omega)]
    congr 2
    simp only [pref]
    split <;> omega
set_option maxHeartbeats 4000000 in
theorem law_FnLikeliestState (x : List Nat) (_ : x.length ≤ Go.maxLen) (hb : ∀ y ∈ x, y < 256) : call lf n_laws_FnLikeliestState [bys x] = some (.b true, []) := by
  show call lf n_laws_FnLikeliestState [.sl 0 (x.map .y)] = _
  rw [call_k lf n_laws_FnLikeliestState _ (F := F_laws_FnLikeliestState) rfl rfl]
  by_cases hl : 1048576 < (x.length : Int)
  · simp [F_laws_FnLikeliestState, hl]
  · obtain ⟨us, u1, d⟩ := c_DrawLikeliestState hb (by omega)
    have C1 := c_impl_LikeliestState us (by omega)
    have C2 := c_spec_LikeliestState us (by omega)
    have C3 := c_impl_TestsOk us (by omega)
    cases h1 : tsOk us with
    | false =>
      have e : likeliest us = -1 := by simp [likeliest, h1]
      rw [e] at C1 C2
      simp (config := { maxSteps := 2000000 }) [F_laws_FnLikeliestState, hl, d, C1, C2, C3, h1, c_alive]
    | true =>
      have h1' := tsOk_iff.1 h1
      have P := p2 h1
      have e : likeliest us = pref us := by simp only [likeliest, h1, if_true]; rw [best_pref h1'.2]
      rw [e] at C1 C2
      have pl := pref_lt us
      have n1 : ¬ ((pref us : Nat) : Int) < 0 := by omega
      have n2 : ¬ ((us.length : Int) < 0) := by omega
      have sh := shl1 (k := us.length) (by omega) (by omega)
      simp at sh
      have L1 : ex lf F_laws_FnLikeliestState_W0 ⟨[(3, .own 5648 us.length 0 us.length), (4, .i (pref us)), (5, .i 0)], [(5648, us.map e2)]⟩ =
          some (.exit 0, ⟨[(3, .own 5648 us.length 0 us.length), (4, .i (pref us)), (5, .i us.length)], [(5648, us.map e2)]⟩) := by
        refine loop_count us.length (fun i => ⟨[(3, .own 5648 us.length 0 us.length), (4, .i (pref us)), (5, .i i)], [(5648, us.map e2)]⟩) (fun i hi => ?_) ?_ (by simp)
        · obtain ⟨t, t1, t2, t3, t4⟩ := at_e2 hi
          have tk := tOk_iff.1 (List.all_eq_true.1 h1'.2 t t2)
          have a1 := atN_e2 t1
          have w1 : wr ((i : Int) + 1) = (i : Int) + 1 := wr_id (by omega) (by omega)
          have w2 : wr (2 * t.2) = 2 * t.2 := wr_id (by omega) (by omega)
          have n3 : ¬ ((i : Int) < 0) := by omega
          have sr := shr1 (a := (pref us : Nat)) (k := i) (by omega) (by omega)
          simp only [Int.toNat_natCast] at sr
          have tm := tmod2 (div_pow_nonneg (s := (pref us : Nat)) (by omega) i)
          have pb := pref_bit us i t t1
          rw [pb] at tm
          have lu : (us.map e2).length = us.length := by simp
          generalize us.map e2 = es at *
          by_cases g : 2 * t.2 > 6
          · rw [if_pos g] at tm
            have g' : (6 : Int) < 2 * t.2 := g
            simp [F_laws_FnLikeliestState_L0, hi, lu, a1, w1, w2, n3, sr, tm, g']
          · rw [if_neg g] at tm
            have g' : ¬ (6 : Int) < 2 * t.2 := g
            simp [F_laws_FnLikeliestState_L0, hi, lu, a1, w1, w2, n3, sr, tm, g']
        · simp [F_laws_FnLikeliestState_L0]
      have L2 : ex lf F_laws_FnLikeliestState_W1 ⟨[(3, .own 5648 us.length 0 us.length), (4, .i (pref us)), (6, .i 0)], [(5648, us.map e2)]⟩ =
          some (.exit 2, ⟨[(3, .own 5648 us.length 0 us.length), (4, .i (pref us)), (6, .i (2 ^ us.length))], [(5648, us.map e2)]⟩) := by
        refine loop_count (2 ^ us.length) (fun i => ⟨[(3, .own 5648 us.length 0 us.length), (4, .i (pref us)), (6, .i i)], [(5648, us.map e2)]⟩) (fun i hi => ?_) ?_ (by simp)
        · have hlt : ((i : Nat) : Int) < 2 ^ us.length := by omega
          have W := c_impl_WeightOf us i (by omega)
          have W2 := c_impl_WeightOf us (pref us) (by omega)
          rw [wtOf_of h1 (by omega) (by omega)] at W W2
          have w1 : wr ((i : Int) + 1) = (i : Int) + 1 := wr_id (by omega) (by omega)
          have g : ¬ (wt us (pref us) < wt us i) := by have := (wt_pref h1'.2 i).1; omega
          simp [F_laws_FnLikeliestState_L1, n2, sh, hlt, W, W2, w1, g]
        · simp [F_laws_FnLikeliestState_L1, n2, sh]
      simp (config := { maxSteps := 2000000 }) [F_laws_FnLikeliestState, hl, d, C1, C2, n1, L1, L2]
set_option maxHeartbeats 4000000 in
theorem law_FnWhereParts (x : List Nat) (_ : x.length ≤ Go.maxLen) (hb : ∀ y ∈ x, y < 256) : call lf n_laws_FnWhereParts [bys x] = some (.b true, []) := by
  show call lf n_laws_FnWhereParts [.sl 0 (x.map .y)] = _
  rw [call_k lf n_laws_FnWhereParts _ (F := F_laws_FnWhereParts) rfl rfl]
  by_cases hl : 1048576 < (x.length : Int)
  · simp [F_laws_FnWhereParts, hl]
  · obtain ⟨us, ks, u1, k1, d⟩ := c_DrawWeightWhere hb (by omega)
    have C1 := c_impl_WeightWhere us ks (by omega) (by omega)
    have C2 := c_spec_WeightWhere us ks (by omega) (by omega)
    cases h : (tsOk us && ksOk us.length ks) with
    | false =>
      rw [ww_neg h] at C1 C2
      simp (config := { maxSteps := 2000000 }) [F_laws_FnWhereParts, hl, d, C1, C2, c_alive]
    | true =>
      rw [Bool.and_eq_true] at h
      obtain ⟨h1, h2⟩ := h
      have h1' := tsOk_iff.1 h1
      have h2' := ksOk_iff.1 h2
      rw [ww_wk h1 h2] at C1 C2
      have B := wk_le (ks := ks) h1'.2 (by omega)
      have n1 : ¬ wk us ks < 0 := by omega
      match ks, us, h1, h2, h1', h2', B, n1, C1, C2, d, u1, k1 with
      | [], us, _, _, h1', h2', _, _, _, _, _, _, _ => have := h2'.2.1; simp at this; omega
      | _ :: _, [], _, _, h1', _, _, _, _, _, _, _, _ => have := h1'.1.1; simp at this
      | k :: r, t :: us, h1, h2, h1', h2', B, n1, C1, C2, d, u1, k1 =>
        have ok : ∀ c : Int, -1 ≤ c → c ≤ 1 → ksOk ((t :: us).length : Nat) (c :: r) = true := by
          intro c c1 c2
          rw [ksOk_iff]
          refine ⟨h2'.1, by simpa using h2'.2.1, ?_⟩
          have := h2'.2.2
          simp only [List.all_cons, Bool.and_eq_true] at this ⊢
          exact ⟨by simp [kOk, c1, c2], this.2⟩
        have A1 := c_impl_WeightWhere (t :: us) (-1 :: r) (by omega) (by simp at k1 ⊢; omega)
        have A2 := c_impl_WeightWhere (t :: us) (0 :: r) (by omega) (by simp at k1 ⊢; omega)
        have A3 := c_impl_WeightWhere (t :: us) (1 :: r) (by omega) (by simp at k1 ⊢; omega)
        rw [ww_wk h1 (ok _ (by omega) (by omega))] at A1 A2 A3
        have b2 := wk_le (ks := 0 :: r) h1'.2 (by omega)
        have b3 := wk_le (ks := 1 :: r) h1'.2 (by omega)
        have e := wk_parts t us r
        rw [← e] at A1
        have g2 : 0 < wk (t :: us) (0 :: r) := by omega
        have g3 : 0 < wk (t :: us) (1 :: r) := by omega
        have w : wr (wk (t :: us) (0 :: r) + wk (t :: us) (1 :: r)) = wk (t :: us) (0 :: r) + wk (t :: us) (1 :: r) := wr_id (by omega) (by omega)
        have bb : r.length + 1 ≤ bound := by unfold bound; simp at k1; omega
        generalize wk (t :: us) (0 :: r) = p at *
        generalize wk (t :: us) (1 :: r) = q at *
        simp [e2] at C1 C2 d A1 A2 A3
        simp (config := { maxSteps := 2000000 }) [F_laws_FnWhereParts, hl, d, C1, C2, n1, A1, A2, A3, g2, g3, w, c_alive, bb, e2]
end Zz
